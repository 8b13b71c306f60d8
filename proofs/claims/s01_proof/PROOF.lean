import PyProof.Rows.All
import Wide.All
import OpenK.AllK
import Wide.FinOn
import PyProof.EqAt
import PyProof.EqKinds
import PyProof.TupleCall
import KE.BitLaws
import Open.SpecLaws
import KE.OsHead
import KE.OsGo
import PySem.Challenge.RW_bodieswing_s01_answers
set_option Elab.async false
set_option linter.all false
set_option maxRecDepth 100000
set_option maxHeartbeats 2000000
noncomputable section
open _root_ renaming rfl→J,Int→ae,Nat→af,List→ag,Option→aw,if_neg→ay,if_pos→aH,trivial→cg,Bool→c_,decide_eq_true→dD,of_decide_eq_true→dE,False→eW,congrArg→gH,decide_eq_false→gW,True→i9,Array→jC,Unit→j1,decide_eq_true_eq→j7,if_true→nN,of_decide_eq_false→uD,if_false→wD,String→yf,true_and→EO,decide_eq_false_iff_not→F3,decide_eq_decide→Kr,false_or→KA
open Option renaming some→L,none→ah,map_some→vK,bind→zW,map→JS,isSome_map→Xy
open PySem renaming Addr→ak,Str→ax,Value→aE,sizeLine→bH,model→bX,Heap→b9,wpAny→b_,Program→cN,FuncData→cX,eval→da,Shared→de,wpAny_bind→dh,starEach→dq,Stmt→dr,mainGlobals→d9,Obj→eN,wpAny_pure→gc,Pos→gP,cellsFrom→iz,backTo→jr,compEnvC→jt,mem_of_lookup→jE,Env→kj,wpAny_mono→kO,Scope→lZ,NameKind→mQ,binaryOp→nr,compareOp→nz,Around→oa,cLine→ow,hashInt→oB,PyData→pj,boot_len→pA,bindArgs→rF,codeAny→tT,notedBy→wQ,pushCells→xk,sysModules→xu,BindsTo→xD,atKey→yh,bindC→yi,bindL→yj,codeAny_mono→yn,getItem→yx,swapsWith→zD,DictEntry→zL,holding→AM,sliceBounds→Bx,wpAny_field→BJ,wpAny_passesOwn→BK,wpAny_truthy_bool→BL,assignEach→CD,backToKw→CH,bootBuiltins→CL,callerA→CQ,compPost→CY,findBy→C7,foldedSetIterable→C9,keywordEach→Dv,valueAt→EU,wpAny_Call_Name_kw→EX,wpAny_newObj_type→EY,assign→FI,attributeBase→FJ,callWith→FQ,getMethod→Gk,inplaceOp→GH,isTrue→GJ,noteFrame→G_,pushCells_keeps→HF,standAt→IJ,tupleKind→I0,wpAny_execs_nil→Jf,PassesOwn→JT,leaving→Lx,recursionLimit→My,subscripted→NU,wpAny_call→N7,wpAny_holding→N8,Within→Pe,builtinsNs→P4,call_meets→P7,letOwnedTupleGo→RQ,seqIndex_neg→UR,seqIndex_of→US,storeName→VG,tupleKind_room_in1→V8,wpAny_Name→Wn,wpAny_standAt→Wo,call→XU,codeAny_call_function→Y2,codeAny_compStart_list→Y3
open Bool renaming true→ao,false→aK,and_eq_true→eR,noConfusion→oY,false_or→sU,false_ne_true→vB,or_eq_false_iff→zJ,false_eq_true→BQ,eq_iff_iff→E3,or_eq_true→E4,not_eq_false'→Jk,not_eq_true'→Od,and_eq_false_iff→Wv,and_false→Ww,not_true→Wx,or_false→Wy,true_and→Wz,true_or→WA
open PySem.W renaming Frag→aq,nsIn→gS,keepIn→jn,WData→oq,fnOf→oz,mg_of→tD,findIn→vN,WellAll→vX,callWith_K→zY,emptyDict→zZ,hideAll→z5,instObj→Cg,hideAll_get→Fv,codeIn→FW,lookIn→JX,of_hideAll→JY,plainGet→JZ,cellsFrom_some→O9,hasDictIn→O_,isFn→Pa,methodCall_KW→Pb,plainGet_of→Pc,takerIn→Pd,WalkOS→XH,callWith_K0→XI,codeRec_of→XJ,excIn→XM,handedIn→XN,hideAll_none→XO,length_le_weightAllW→XQ,makesIn→XR,plainOver→XS
open Rb49 renaming Kind→aB,step→cH,negative→dM,P→dP,add→eU,Body→ff,rounded→fv,signBit→fH,mul→ir,plus→iR,along→iY,finite→jv,below→jH,folded→jK,Spring→j0,cross→kU,half→lr,dot→lX,numbers→mX,power→oK,speed→pk,turned→pq,turning→pw,opposite→qF,World→rm,between→rC,moment→rD,Q→tG,ma→tH,isSlow→vQ,kept→vR,made→vS,ms→vT,root→vU,times→vV,minus→wK,against→xW,div→xX,each→xY,floorRoot→xZ,free→x_,norm→yb,unit→yc,worth→zI,DOUBLE→z8,Push→z9,SINGLE→z_,one→Aa,pushedBack→Ab,sums→Ac,bodyOf→Aq,summed→BE,done→Co,otherKind→Cp,pushed→Cq,sub→Cr,turns→Ct,springOf→EJ,wallsOf→EV,Call→Fz,cx→FA,cy→FC,tensions→IW,whirls→Jb,nma→J2,other→J3,momenta→LJ,Ans→Pj,greatestOf→Pk,leastOf→Pn,nms→Po,parted→Pp,size→Pq,turnedBack→Pr,withNumber→Wk
open Ne renaming symm→dy
open Nat renaming le_trans→dJ,le_refl→dO,zero_le→eI,lt_of_lt_of_le→gn,pow_add→jm,ne_of_lt→jX,pow_le_pow_right→jY,mul_comm→lU,log2→mT,lt_irrefl→mU,pow_succ→pf,le_log2→qg,mod_eq_of_lt→qY,mod_lt→qZ,mul_le_mul→q_,mul_ne_zero→rf,ne_of_gt→tq,log2_lt→vI,lt_of_le_of_lt→vJ,add_zero→zS,div_add_mod→zT,zero_mul→zU,le_of_eq→B6,le_of_lt→B7,mul_le_mul_right→B8,mul_lt_mul_of_pos_right→B9,mul_mul_mul_comm→B_,two_pow_pos→Ca,div_lt_iff_lt_mul→Fh,le_add_right→Fi,lt_or_ge→Fj,lt_succ_self→Fl,mul_assoc→Fm,zero_add→Fn,le_div_iff_mul_le→JI,le_of_succ_le→JJ,le_succ→JK,log2_two_pow→JL,lt_succ_of_lt→JM,mul_add→JN,add_assoc→OH,add_comm→OI,min_self→OJ,mod_eq_sub_mod→OK,mul_lt_mul''→OL,mul_pos→OO,add_mul_div_left→Xh,add_mul_mod_self_left→Xi,add_sub_cancel_left→Xj,div_div_eq_div_mul→Xk,div_eq_of_lt→Xl,div_le_self→Xm,le_mul_of_pos_left→Xn,le_total→Xo,lt_trans→Xp,min_eq_left→Xq,min_le_right→Xr,mul_le_mul_left→Xs,pow_lt_pow_right→Xt,sub_self→Xu,zero_div→Xv
open PySem.Heap renaming lt_size→d_,get?_push_of_some→iK,get?_push_size→o6,size_push→o7,SameBut→E8,FlyingW→Jq,get?_update_other→Jr,get?_update_self→WK
open Sum renaming inl→eP,inr→Ai
open List renaming size_toArray→gk,mem_cons_of_mem→gz,length_map→hJ,mem_cons_self→ik,range→il,length_append→iL,mem_of_getElem?→jW,length_take→km,map_cons→kr,take_length→lS,getD→mM,getElem?_map→mO,take_zero→mP,append_nil→o8,length_set→o9,mem_append_right→tj,length_range→vH,any_cons→xH,getElem?_eq_getElem→xI,length_cons→xJ,lookup→xK,cons_append→zN,filterMap_cons→zO,getElem?_set_ne→zP,lookup_cons→zQ,replicate→zR,getD_eq_getElem?_getD→BY,getElem?_eq_none→BZ,getElem?_set_self→B0,length_drop→B1,map_append→B2,length_zip→Fe,map→Ff,append_assoc→JA,eq_nil_of_length_eq_zero→JB,flatMap_cons→JC,length→JD,mem_cons→JE,of_mem_zip→JF,all_eq_true→Ou,drop_zero→Ov,getElem?_append_right→Ox,getElem?_of_mem→Oy,getElem?_zip_eq_some→Oz,map_map→OA,mem_append_left→OC,not_mem_nil→OE,take_append_drop→OG,any_map→WY,drop_drop→WZ,drop_eq_nil_of_le→W0,drop_length→W2,ext_getElem→W3,ext_getElem?→W4,filter_cons_of_pos→W5,flatMap_append→W6,foldl_append→W7,getElem?_append_left→W8,getElem?_drop→W9,getElem?_replicate→W_,getElem?_take_of_lt→Xa,getElem_inj→Xb,length_replicate→Xc,take_sublist→Xd,take_succ→Xe
open False renaming elim→g_
open Int renaming mul_assoc→jD,toNat_natCast→kl,natCast_mul→qf,zero_add→vE,one_mul→zM,toNat_of_nonneg→BR,mul_one→E9,natAbs_mul→E_,zero_mul→Fb,fdiv_eq_ediv_of_nonneg→Jw,natAbs_pow→Jx,pow_zero→Jy,add_comm→Oh,mul_comm→Oj,mul_neg_of_neg_of_pos→Ol,natCast_ediv→Om,pow_add→Oo,add_mul_ediv_right→WN,ediv_emod_unique→WO,ediv_eq_zero_of_lt→WQ,le_trans→WR,mul_nonneg→WS,natCast_add→WT,natCast_emod→WU,natCast_nonneg→WV,ne_of_gt→WW
open PySem.Value renaming ref→j3,type→Aj,bool→Cw,none→Cy,int→J',str→J_,bytes→X3,float→X4,isInt→X5,isStrOf→X6
open PySem.Builtin.Int renaming intBits→kh
open Rb49Neutral renaming whole32→lY,object→rE,step→yd,bits→Ad,goes→Ae,kindOf→Af,nats→Ag,width→Ah,natural→J4,asked1→Pt,long→XY
open PyProof.Rows renaming envOfC→md,boot_tuple→rG,AllBare→sQ,callWith_type1→JV,boot_abs→Kj,Subscript_→Pu,boot_list→P2,slot_tuple_getitem→XD
open Option.some renaming inj→mV
open Rb49.P renaming list→oj
open Decidable renaming byContradiction→qV
open List.cons renaming injEq→vG
open PyRb49 renaming whole→vL,shape→xP,answers→Fu,answers_asked→JW
open PySem.F renaming plainAttrs_list→vM,slot_list_append→Ce,type_list_append→Cf,slot_list_extend→O0,type_list_extend→O8,args_list_extend_2→WI,entry_list_extend→WJ,args_tuple_add_2→XE,entry_tuple_add→XF,slot_tuple_add→XG
open PyFlat renaming call→xN,calls→xO,played→OX,told→OY,rows→XC
open Or renaming inl→Cb,inr→Fo
open PySem.PyData renaming canLay0→Cc,depth→Cd,eqv→Fs,eqvAll→Ft,canLayAll0→JU,depthAll→OW
open True renaming intro→Cv
open PySem.W.Codec renaming encAll→E5,app→Jo,withinAll→WH
open Prod renaming fst→Fq
open Array renaming append_assoc→Jj,length_toList→Ob,toList→Oc
open PySem.Builtin.List renaming listTooLong→Jl
open ForInStep renaming yield→Jp
open Rb49.Kind renaming sign→Jz
open PySem.NameKind renaming free→JH
open PySem.Obj renaming mapSeq→JR,data_mapFields→Xw,mapFields→Xx
open PySem.SeqAt renaming shaped→J7,EqAt→X0
open PySem.Around renaming under→Oa,frames_deeper→Wt
open PySem.Builtin.Slice renaming sliceAdjust→Oe,slicePlaces→Of
open PyProof.Rows.IsTup renaming new→Oq
open PySem.Paired renaming length→OV,snoc→XA
open PySem.AutoSeq1 renaming wpAny_loadPart'→Wu
open PySem.Calls renaming Name_function_global→WB,callWith_builtin→WC,evalArgs_plain→WD,spliced_cons→WE,spliced_nil→WG
open Rb49.Q renaming list→XX
open Sum.inl renaming inj→X1
open PySem.Value.type renaming inj→X7
open PySem.W.WData renaming weightAll→X8
set_option hygiene false in
local macro_rules| `(tactic|sleep 1)=> `(tactic|(repeat (first|rw[dm,aH J]|rw[dm,ay (by decide+kernel)])))
set_option hygiene false in
local macro_rules| `(tactic|sleep 2)=> `(tactic|(repeat (first|rw[putF_nil]|rw[putF_eq]|rw[putF_ne (by decide+kernel)])))
theorem dk{p:Prop}[Decidable p](h:p:=by decide+kernel):p:=h
theorem dc{p:Prop}[Decidable p](h:p:=by decide):p:=h
theorem om{p:Prop}(h:p:=by omega):p:=h
namespace Bw
open Rb49
theorem eV(n:af):0<2^n:=Ca n
theorem iS(n:af):((2^n:af):ae)=2^n:=by simp
theorem mi(n:af):(0:ae)<2^n:=by rw[<-iS];exact Int.natCast_pos.mpr<|eV n
def fK(m:ae):af:=if m=0 then 0 else m.natAbs.log2+1
theorem rne_floor(m T h:ae)(hT:T=2*h)(hh:0<h):(m+h-1+(m/T)%2)/T=m/T+(if h<m%T\/(m%T=h/\(m/T)%2=1) then 1 else 0):=by
 have De:T≠0:=by omega
 have h1:m+h-1+(m/T)%2=(m%T+h-1+(m/T)%2)+m/T*T:=by
  have:=Int.emod_add_mul_ediv m T;rw[Oj] at this;omega
 rw[h1,WN _ _ De];have r0:=Int.emod_nonneg m De;have r1:m%T<T:=Int.emod_lt_of_pos m om
 split
 ·rename_i hc
  have:(m%T+h-1+(m/T)%2)/T=1:=by
   rw[Int.ediv_eq_iff_of_pos om];rcases hc with hc|⟨hc,hd⟩<;>constructor<;>omega
  omega
 ·rename_i hc
  have:(m%T+h-1+(m/T)%2)/T=0:=by
   apply WQ
   ·omega
   ·have:=λz=>hc<|.inl z
    by_cases e:m%T=h
    ·have:=λz=>hc<|.inr ⟨e,z⟩
     omega
    ·omega
  omega
def HK(a s:af):af:=a/2^s+(if 2^(s-1)<a%2^s\/(a%2^s=2^(s-1)/\a/2^s%2=1) then 1 else 0)
theorem two_split(hs:0<s):2^s=2*2^(s-1):=by
 obtain⟨t,rfl⟩:∃t,s=t+1:=⟨s-1,om⟩;rw[pf,Nat.add_sub_cancel,lU]
theorem rne_int(m:ae)(hs:0<s):(m+2^(s-1)-1+(m/2^s)%2)/2^s=(if m<0 then-1 else 1)*(HK m.natAbs s:ae):=by
 have hp:=eV<|s-1;have eT:(2:ae)^s=2*2^(s-1):=by
  have:=two_split hs;rw[<-iS,<-iS];omega
 rw[rne_floor m _ _ eT<|mi _];unfold HK;generalize Z4:2^s=T;generalize hhh:2^(s-1)=h at*;have e1:2^s=(T:ae):=by rw[<-Z4,iS]
 have e2:2^(s-1)=(h:ae):=by rw[<-hhh,iS]
 rw[e1,e2];have De:(0:ae)<T:=by omega
 by_cases hm:m<0
 ·rw[aH hm]
  obtain⟨a,rfl⟩:∃a:af,m= -(a:ae):=⟨m.natAbs,om⟩;have ea:(-(a:ae)).natAbs=a:=by omega
  rw[ea];have d1:=by
   have:=zT a T;rw[lU] at this
   exact_mod_cast this.symm
  have lt:a%T<T:=qZ _ om;generalize a/T=q at*;generalize a%T=r at*;by_cases hr:r=0
  ·have u:(-(a:ae))/T= -(q:ae)/\(-(a:ae))%T=0:=by
    rw[WO De];rw[d1,hr,Int.mul_neg,Oj];omega
   rw[u.1,u.2,ay om,ay om];omega
  ·have u:(-(a:ae))/T= -(q:ae)-1/\(-(a:ae))%T=T-r:=by
    rw[WO De];rw[d1,Int.mul_sub,Int.mul_neg,Oj (T:ae)];omega
   split<;>split<;>omega
 ·rw[ay hm]
  obtain⟨a,rfl⟩:∃a:af,m=(a:ae):=⟨m.natAbs,om⟩;have ea:((a:ae)).natAbs=a:=by omega
  rw[ea];have d1:(a:ae)/(T:ae)=((a/T:af):ae):=by simp
  have d2:(a:ae)%(T:ae)=((a%T:af):ae):=by simp
  split<;>split<;>omega
end Bw
namespace Bw
open Rb49
def bS(k:aB):Prop:=k=DOUBLE\/k=SINGLE
def aN(k:aB):ae:=k.least+(2^k.expo:af)-3
def sg(n:c_):ae:=if n=ao then-1 else 1
def bf(k:aB)(x:F):ae×ae:=if(whole k x).1=0 then(0,if dM k x=ao then 1 else 0) else(sg (dM k x)*((whole k x).1),(whole k x).2)
theorem xo(k:aB):k.sign=2^k.frac*2^k.expo:=by unfold Jz;rw[jm]
theorem F9(k:aB)(neg:c_){f n:af}(hf:f<2^k.expo)(hn:n<2^k.frac):field k (fH k neg+f*2^k.frac+n)=f/\dM k (fH k neg+f*2^k.frac+n)=neg/\(fH k neg+f*2^k.frac+n)%2^k.frac=n/\fH k neg+f*2^k.frac+n<2*k.sign/\f*2^k.frac+n<k.sign:=by
 have hA:=eV k.frac;have d7:f*2^k.frac+n<k.sign:=by
  rw[xo,lU<|2^k.frac];have:(f+1)*2^k.frac<=2^k.expo*2^k.frac:=B8 _ hf;rw[Nat.add_mul] at this;omega
 have e1:fH k neg+f*2^k.frac+n=n+2^k.frac*((if neg=ao then 2^k.expo else 0)+f):=by
  unfold fH;rw[xo,JN,lU f]
  split<;>omega
 refine⟨?_,?_,?_,?_,d7⟩
 ·unfold field
  rw[e1,Xh _ _ hA,Xl hn,Fn]
  split
  ·rw[Nat.add_mod_left,qY hf]
  ·rw[Fn,qY hf]
 ·unfold dM fH
  cases neg
  ·simp only[BQ,wD,Fn]
   exact gW om
  ·simp only[nN]
   exact dD om
 ·rw[e1,Xi,qY hn]
 ·unfold fH
  split<;>omega
def cQ(k:aB)(x:af):Prop:=x<2*k.sign/\jv k x=ao
theorem EW(k:aB)(neg:c_){n:af}(hn:n<2^k.frac):whole k (fH k neg+n)=(n,k.least)/\dM k (fH k neg+n)=neg/\fH k neg+n<2*k.sign/\field k (fH k neg+n)=0:=by
 have h:=F9 k neg (eV _) hn;simp[zU,zS] at h;obtain⟨h1,h2,h3,h4,_⟩:=h;refine⟨?_,h2,h4,h1⟩;unfold whole;rw[aH h1,h3]
theorem Wi(k:aB)(neg:c_){f n:af}(h0:0<f)(hf:f<2^k.expo)(hn:n<2^k.frac):whole k (fH k neg+f*2^k.frac+n)=(n+2^k.frac,k.least+f-1)/\dM k (fH k neg+f*2^k.frac+n)=neg/\fH k neg+f*2^k.frac+n<2*k.sign/\field k (fH k neg+f*2^k.frac+n)=f:=by
 obtain⟨h1,h2,h3,h4,_⟩:=F9 k neg hf hn;refine⟨?_,h2,h4,h1⟩;unfold whole;rw[ay om,h3,h1]
def cY(k:aB)(m e:ae):ae:=if e+((fK m)-(k.frac+1:af))<k.least then k.least-e else(fK m)-(k.frac+1:af)
def eZ(k:aB)(m e:ae):aw<|ae×ae:=if 0<cY k m e then
  let kept:=(m+2^(cY k m e-1).toNat-1+(m/2^(cY k m e).toNat)%2)/2^(cY k m e).toNat
  if kept=0 then L (0,if m<0 then 1 else 0)
  else if k.frac+1<fK kept then(if aN k<e+(cY k m e+1) then ah else L (kept/2,e+(cY k m e+1)))
  else(if aN k<e+cY k m e then ah else L (kept,e+cY k m e))
 else(if aN k<e+cY k m e then ah else L (m*2^(-(cY k m e)).toNat,e+cY k m e))
theorem Am(h:m≠0):fK m=m.natAbs.log2+1:=ay h
theorem Ar(h:m≠0):e+cY k m e=max (e+(mT m.natAbs+1:af)-(k.frac+1:af)) k.least:=by
 unfold cY;rw[Am h]
 split<;>omega
theorem r8(h:a≠0):2^a.log2<=a:=Nat.log2_self_le h
theorem log2_lt:a<2^(a.log2+1):=Nat.lt_log2_self
theorem log2_eq(h1:2^n<=a)(h2:a<2^(n+1)):a.log2=n:=by
 have h0:a≠0:=by have:=eV n;omega
 have a1:=(qg h0).mpr h1;have a2:=(vI h0).mpr h2;omega
theorem shift_lt(h:a.log2+1<=f+d):a/2^d<2^f:=by
 rw[Fh<|eV d,<-jm];exact gn log2_lt<|jY om h
theorem U0(h0:a≠0)(h:f+d<=a.log2):2^f<=a/2^d:=by
 rw[JI<|eV d,<-jm];exact dJ (jY om h)<|r8 h0
def dj(k:aB)(neg:c_)(n:af)(q:ae):aw F:=if n<2^k.frac then L (fH k neg+n)
 else if(2^k.expo-1:af)<=q-k.least+1 then ah
 else L (fH k neg+(q-k.least+1).toNat*2^k.frac+(n-2^k.frac))
theorem EN(k:aB)(_hq:k.least<=q):((2^k.expo-1:af)<=q-k.least+1)↔aN k<q:=by
 unfold aN;omega
theorem FZ(k:aB)(neg:c_)(hk:2<=2^k.expo-1)(hq:k.least<=q)(hl:n<2^k.frac->q=k.least)(hn:n<2^(k.frac+1)):(dj k neg n q).map (bf k)=(if n=0 then L (0,if neg=ao then 1 else 0) else if aN k<q then ah else L (sg neg*n,q))/\ ∀x,dj k neg n q=L x->cQ k x:=by
 unfold dj;by_cases h1:n<2^k.frac
 ·obtain⟨w1,w2,w3,w4⟩:=EW k neg h1
  have nt:¬aN k<q:=by
   rw[<-EN k hq,hl h1];omega
  rw[aH h1,ay nt];constructor
  ·show L (bf k _)=_
   unfold bf;rw[w1,w2];by_cases h0:n=0
   ·rw[aH h0,aH h0]
   ·rw[ay h0,ay h0,hl h1]
  ·intro x hx
   cases hx
   refine⟨w3,?_⟩;unfold jv;exact bne_iff_ne.mpr om
 ·have h0:n≠0:=by have:=eV k.frac;omega
  rw[ay h1,ay h0];by_cases ht:aN k<q
  ·rw[aH ht,aH<|(EN k hq).mpr ht]
   exact⟨J,λx hx=>nomatch hx⟩
  ·rw[ay ht]
   have ht':¬_:=λz=>ht<|(EN k hq).mp z;rw[ay ht'];have AL:n-2^k.frac<2^k.frac:=by rw[pf] at hn;omega
   obtain⟨w1,w2,w3,w4⟩:=Wi k neg (f:=(q-k.least+1).toNat) om om AL;constructor
   ·show L (bf k _)=_
    unfold bf;rw[w1,w2];have e:n-2^k.frac+2^k.frac=n:=by omega
    rw[e,ay h0];have e2:k.least+((q-k.least+1).toNat)-1=q:=by omega
    rw[e2]
   ·intro x hx
    cases hx
    refine⟨w3,?_⟩;unfold jv;exact bne_iff_ne.mpr om
def dw(k:aB)(m:af)(e:ae):ae:=max (e+(mT m+1:af)-(k.frac+1:af)) k.least
def ie(k:aB)(m:af)(e:ae)(more:c_):af:=if dw k m e<=e then m*2^(e-dw k m e).toNat else
  m/2^(dw k m e-e).toNat+(if 2^((dw k m e-e).toNat-1)<m%2^(dw k m e-e).toNat\/(m%2^(dw k m e-e).toNat=2^((dw k m e-e).toNat-1)/\(more=ao\/m/2^(dw k m e-e).toNat%2=1)) then 1 else 0)
theorem uQ(k:aB)(neg:c_)(e:ae)(more:c_)(h:m≠0):fv k neg m e more=if ie k m e more=2^(k.frac+1) then dj k neg (2^k.frac) (dw k m e+1) else dj k neg (ie k m e more) (dw k m e):=by
 unfold fv;rw[ay h];show(match(if ie k m e more=2^(k.frac+1) then(2^k.frac,dw k m e+1) else(ie k m e more,dw k m e)) with|(n,q)=>dj k neg n q)=_
 split<;>rename_i h1<;>split at h1<;>rename_i h2<;>cases h1
 ·rw[aH h2]
 ·rw[ay h2]
theorem DN(k:aB)(e:ae)(more:c_)(h:m≠0):ie k m e more<=2^(k.frac+1)/\(ie k m e more<2^k.frac->dw k m e=k.least)/\k.least<=dw k m e:=by
 have fj:k.least<=dw k m e:=by unfold dw;omega
 have Li:e+(mT m+1:af)-(k.frac+1:af)<=dw k m e:=by unfold dw;omega
 have lu:dw k m e=k.least\/dw k m e=e+(mT m+1:af)-(k.frac+1:af):=by unfold dw;omega
 unfold ie;generalize hq:dw k m e=q at*;by_cases hqe:q<=e
 ·rw[aH hqe]
  refine⟨?_,λd7=>?_,fj⟩
  ·have h1:m*2^(e-q).toNat<2^_*2^(e-q).toNat:=B9 log2_lt<|eV _
   rw[<-jm] at h1;have h2:2^(m.log2+1+(e-q).toNat)<=2^(k.frac+1):=jY om om;omega
  ·rcases lu with z|z
   ·exact z
   ·exfalso
    have h1:2^m.log2*2^(e-q).toNat<=m*2^(e-q).toNat:=B8 _<|r8 h;rw[<-jm] at h1;have h2:2^k.frac<=2^(m.log2+(e-q).toNat):=jY om om;omega
 ·rw[ay hqe]
  have b1:m/2^(q-e).toNat<2^(k.frac+1):=shift_lt om;refine⟨by split<;>omega,λd7=>?_,fj⟩;rcases lu with z|z
  ·exact z
  ·exfalso
   have h2:2^k.frac<=m/2^(q-e).toNat:=U0 h om;omega
theorem Ej(k:aB){m:ae}(e:ae)(hk:2<=2^k.expo-1)(hf:1<=k.frac)(hm:m≠0):eZ k m e=(fv k (decide (m<0)) m.natAbs e aK).map (bf k)/\ ∀x,fv k (decide (m<0)) m.natAbs e aK=L x->cQ k x:=by
 have ha:m.natAbs≠0:=by omega
 obtain⟨n1,n2,n3⟩:=DN k e aK ha;have hc:e+cY k m e=dw k m.natAbs e:=Ar (k:=k) (e:=e) hm;rw[uQ k _ e aK ha];have GB:sg (decide (m<0))=if m<0 then-1 else 1:=by unfold sg;by_cases z:m<0<;>simp[z]
 have hz:(if decide (m<0)=ao then(1:ae) else 0)=if m<0 then 1 else 0:=by by_cases z:m<0<;>simp[z]
 have hA:=eV k.frac;by_cases AO:0<cY k m e
 ·have hs:(cY k m e).toNat=(dw k m.natAbs e-e).toNat:=by omega
  have Rh:(cY k m e-1).toNat=(cY k m e).toNat-1:=by omega
  have hkept:(m+2^(cY k m e-1).toNat-1+(m/2^(cY k m e).toNat)%2)/2^(cY k m e).toNat=(if m<0 then-1 else 1)*(ie k m.natAbs e aK:ae):=by
   rw[Rh,rne_int m om];have e1:HK m.natAbs (cY k m e).toNat=ie k m.natAbs e aK:=by
    have hnle:¬dw k m.natAbs e<=e:=by omega
    unfold ie;rw[ay hnle];unfold HK;rw[hs];simp only[BQ,KA]
   rw[e1]
  unfold eZ;rw[aH AO];simp only[hkept];generalize hN:ie k m.natAbs e aK=N at*;generalize hP:dw k m.natAbs e=p at*;have Rm:((if m<0 then-1 else 1)*(N:ae)=0)↔N=0:=by split<;>omega
  have Z8:((if m<0 then-1 else 1)*(N:ae)).natAbs=N:=by split<;>omega
  by_cases yy:N=0
  ·rw[aH<|Rm.mpr yy,ay (show¬N=2^(k.frac+1) by omega)]
   have:=FZ k (decide (m<0)) (n:=N) (q:=p) hk n3 n2 om;rw[aH yy,hz] at this;exact⟨this.1.symm,this.2⟩
  ·have gR:=λz=>yy<|Rm.mp z
   rw[ay gR,Am gR,Z8];by_cases hfull:N=2^(k.frac+1)
   ·rw[aH hfull]
    have hX:N.log2=k.frac+1:=by rw[hfull];exact JL
    rw[aH om];have:=FZ k (decide (m<0)) (n:=2^k.frac) (q:=p+1) hk om (λz=>absurd z om) om;rw[ay om,GB] at this;refine⟨?_,this.2⟩;rw[this.1,show e+(cY k m e+1)=p+1 by omega];have e4:(if m<0 then-1 else 1)*(N:ae)/2=(if m<0 then-1 else 1)*((2^k.frac:af):ae):=by
     split<;>omega
    rw[e4]
   ·rw[ay hfull]
    have d7:N<2^(k.frac+1):=by omega
    have hX:N.log2<k.frac+1:=(vI yy).mpr d7;rw[ay om];have:=FZ k (decide (m<0)) (n:=N) (q:=p) hk n3 n2 d7;rw[ay yy,GB] at this;exact⟨by rw[this.1,hc],this.2⟩
 ·have yE:dw k m.natAbs e<=e:=by omega
  have Lh:ie k m.natAbs e aK=m.natAbs*2^(e-dw k m.natAbs e).toNat:=by unfold ie;rw[aH yE]
  have hs:(-(cY k m e)).toNat=(e-dw k m.natAbs e).toNat:=by omega
  have d7:ie k m.natAbs e aK<2^(k.frac+1):=by
   rw[Lh];have h1:m.natAbs*2^(e-dw k m.natAbs e).toNat<2^(m.natAbs.log2+1)*2^(e-dw k m.natAbs e).toNat:=B9 log2_lt<|eV _;rw[<-jm] at h1
   have h2:2^(m.natAbs.log2+1+(e-dw k m.natAbs e).toNat)<=2^(k.frac+1):=jY om (by
    have Li:e+((mT m.natAbs+1:af):ae)-((k.frac+1:af):ae)<=dw k m.natAbs e:=by unfold dw;omega
    omega)
   omega
  have yy:ie k m.natAbs e aK≠0:=by
   rw[Lh];exact rf ha (tq<|eV _)
  rw[ay om];have:=FZ k (decide (m<0)) hk n3 n2 d7;rw[ay yy,GB] at this;refine⟨?_,this.2⟩;rw[this.1];unfold eZ;rw[ay AO,hc,Lh,hs];have e4:(if m<0 then-1 else 1)*((m.natAbs*2^(e-dw k m.natAbs e).toNat:af):ae)=m*2^(e-dw k m.natAbs e).toNat:=by
   rw[qf,iS,<-jD]
   congr 1
   split<;>omega
  rw[e4]
end Bw
namespace Bw
open Rb49
theorem Mq(k:aB)(e:ae)(h:m≠0)(hb:b<=1):dw k (2*m+b) (e-1)=dw k m e:=by
 have h1:(2*m+b).log2=m.log2+1:=by
  have a1:=r8 h;have a2:=log2_lt (a:=m);apply log2_eq
  ·rw[pf];omega
  ·rw[pf];omega
 unfold dw;omega
theorem HL(k:aB)(neg:c_)(e:ae)(h:m≠0)(hb:b<=1)(hl:k.frac+1<=m.log2)(c1:s=aK->b=0/\s'=aK)(c2:s=ao->b=1\/s'=ao):fv k neg (2*m+b) (e-1) s'=fv k neg m e s:=by
 have h2:2*m+b≠0:=by omega
 rw[uQ k neg _ s' h2,uQ k neg _ s h,Mq k e h hb];have hp:e+1<=dw k m e:=by unfold dw;omega
 have hn:ie k (2*m+b) (e-1) s'=ie k m e s:=by
  unfold ie;rw[Mq k e h hb];generalize dw k m e=p at*;rw[ay (show¬p<=e-1 by omega),ay (show¬p<=e by omega)];obtain⟨d,hd⟩:∃d:af,p-e=d+1:=⟨(p-e-1).toNat,om⟩;have e1:(p-(e-1)).toNat=d+2:=by omega
  have e2:(p-e).toNat=d+1:=by omega
  rw[e1,e2];have q1:2^(d+2)=2*2^(d+1):=by rw[pf];omega
  have q2:2^(d+1)=2*2^d:=by rw[pf];omega
  have d1:(2*m+b)/2^(d+2)=m/2^(d+1):=by
   rw[q1,<-Xk]
   congr 1
   omega
  have d2:(2*m+b)%2^(d+2)=2*(m%2^(d+1))+b:=by
   have r1:=zT (2*m+b)<|2^(d+2);have r2:=zT m<|2^(d+1);rw[d1,q1,Fm] at r1;rw[q1];omega
  rw[d1,d2,show d+2-1=d+1 by omega,show d+1-1=d by omega]
  cases s with
  |false=>
   obtain⟨rfl,rfl⟩:=c1 J;simp[BQ,KA]
   split<;>split<;>omega
  |true=>
   simp[true_or,and_true];rcases c2 J with rfl|rfl
   ·split<;>split<;>omega
   ·simp[true_or,and_true]
    split<;>split<;>omega
 rw[hn]
theorem rounded_dbl(k:aB)(neg:c_)(m:af)(e:ae):fv k neg (2*m) (e-1) aK=fv k neg m e aK:=by
 by_cases h:m=0
 ·subst h;unfold fv;rw[aH J,aH J]
 have h2:2*m≠0:=by omega
 have Lj:=Mq k (b:=0) e h om;rw[zS] at Lj;rw[uQ k neg _ aK h2,uQ k neg _ aK h,Lj];have hn:ie k (2*m) (e-1) aK=ie k m e aK:=by
  unfold ie;rw[Lj];generalize dw k m e=p at*;by_cases c:p<=e
  ·rw[aH c]
   by_cases c':p<=e-1
   ·rw[aH c',show(e-p).toNat=(e-1-p).toNat+1 by omega,pf,lU 2 m,Fm,lU 2]
   ·rw[ay c',show(e-p).toNat=0 by omega,show(p-_).toNat=1 by omega]
    simp
  ·rw[ay c,ay (show¬p<=e-1 by omega)]
   obtain⟨d,hd⟩:∃d:af,p-e=d+1:=⟨(p-e-1).toNat,om⟩;have e1:(p-(e-1)).toNat=d+2:=by omega
   have e2:(p-e).toNat=d+1:=by omega
   rw[e1,e2];have q1:2^(d+2)=2*2^(d+1):=by rw[pf];omega
   have q2:2^(d+1)=2*2^d:=by rw[pf];omega
   have d1:(2*m)/2^(d+2)=m/2^(d+1):=by
    rw[q1,<-Xk]
    congr 1
    omega
   have d2:(2*m)%2^(d+2)=2*(m%2^(d+1)):=by rw[q1,Nat.mul_mod_mul_left]
   rw[d1,d2,show d+2-1=d+1 by omega,show d+1-1=d by omega];simp[BQ,KA]
   split<;>split<;>omega
 rw[hn]
theorem ME(k:aB)(neg:c_)(m:af)(e:ae):∀j:af,fv k neg (m*2^j) (e-j) aK=fv k neg m e aK
 |0=>by simp
 |j+1=>by
  have:=rounded_dbl k neg (m*2^j)<|e-j;rw[ME k neg m e j] at this;rw[<-this]
  congr 1
  ·rw[pf,<-Fm,lU]
  ·omega
theorem Ui(k:aB)(neg:c_)(m:af)(h:g<=e):fv k neg (m*2^(e-g).toNat) g aK=fv k neg m e aK:=by
 have:=ME k neg m e (e-g).toNat;rw[show e-((e-g).toNat)=g by omega] at this;exact this
theorem pG{a b c:ae}(h1:a<=b)(h2:b<=c):(2:ae)^(c-a).toNat=2^(c-b).toNat*2^(b-a).toNat:=by
 rw[<-Oo]
 congr 1
 omega
def EqAt(a u b v g:ae):Prop:=a*2^(u-g).toNat=b*2^(v-g).toNat
theorem EqAt.down(h:EqAt a u b v g)(hg:g'<=g)(hu:g<=u)(hv:g<=v):EqAt a u b v g':=by
 unfold EqAt at*;rw[pG hg hu,pG hg hv,<-jD,<-jD,h]
theorem EqAt.up(h:EqAt a u b v g')(hg:g'<=g)(hu:g<=u)(hv:g<=v):EqAt a u b v g:=by
 unfold EqAt at*;rw[pG hg hu,pG hg hv,<-jD,<-jD] at h;exact Int.eq_of_mul_eq_mul_right (WW<|mi _) h
theorem EqAt.any(h:EqAt a u b v g)(hu:g<=u)(hv:g<=v)(hu':g'<=u)(AR:g'<=v):EqAt a u b v g':=by
 by_cases c:g'<=g
 ·exact h.down c hu hv
 ·exact h.up om hu' AR
def hm(p:ae×ae):c_:=decide (p.1<0\/(p.1=0/\p.2=1))
structure SV(s:c_)(m:af)(e:ae)(p:ae×ae):Prop where
 zero:p.1=0->p.2=if s=ao then 1 else 0
 val:∀g,g<=e->g<=p.2->EqAt p.1 p.2 (sg s*m) e g
theorem SV.one{m:af}(z:p.1=0->p.2=if s=ao then 1 else 0)(h1:g<=e)(h2:g<=p.2)(h:EqAt p.1 p.2 (sg s*m) e g):SV s m e p:=⟨z,λ_ a b=>h.any h2 h1 b a⟩
theorem oP(s:c_):(s=ao/\sg s= -1)\/(s=aK/\sg s=1):=by cases s<;>simp[sg]
theorem SV.n_(h:SV s m e p):p.1=0↔m=0:=by
 have v:=h.val (min e p.2) om om;unfold EqAt at v;have p1:=mi (p.2-min e p.2).toNat;have p2:=mi (e-min e p.2).toNat;constructor
 ·intro z
  rw[z,Fb] at v;rcases Int.mul_eq_zero.mp v.symm with c|c
  ·rcases oP s with⟨_,q⟩|⟨_,q⟩<;>rw[q] at c<;>omega
  ·omega
 ·intro z
  rw[z] at v;simp[Int.natCast_zero,Int.mul_zero,Fb] at v;rcases Int.mul_eq_zero.mp v with c|c
  ·exact c
  ·omega
theorem SV.hm(h:SV s m e p):Bw.hm p=s:=by
 have v:=h.val (min e p.2) om om;unfold EqAt at v;have p1:=mi (p.2-min e p.2).toNat;have p2:=mi (e-min e p.2).toNat;by_cases z:p.1=0
 ·have:=h.zero z
  cases s
  ·exact gW (by simp at this;omega)
  ·exact dD (by simp at this;omega)
 ·have hm0:m≠0:=λc=>z<|h.n_.mpr c
  have hmp:(0:ae)<m:=by omega
  have hmq:=Int.mul_pos hmp p2;rcases oP s with⟨rfl,q⟩|⟨rfl,q⟩<;>rw[q,jD] at v
  ·apply dD
   apply qV;intro c;have:0<p.1*2^(p.2-min e p.2).toNat:=Int.mul_pos om p1;omega
  ·apply gW
   intro c;have c:p.1<0:=by omega
   have:=Ol c p1;omega
def ij(k:aB)(x y:ae×ae):aw<|ae×ae:=if 0<x.2-y.2 then
  (if x.1*2^(x.2-y.2).toNat+y.1=0 then L (0,if(hm x&&hm y)=ao then 1 else 0) else eZ k (x.1*2^(x.2-y.2).toNat+y.1) y.2)
 else
  (if x.1+y.1*2^(-(x.2-y.2)).toNat=0 then L (0,if(hm x&&hm y)=ao then 1 else 0) else eZ k (x.1+y.1*2^(-(x.2-y.2)).toNat) x.2)
theorem plusP_eq(k:aB)(x y:ae×ae):ij k x y=if x.1*2^(x.2-min x.2 y.2).toNat+y.1*2^(y.2-min x.2 y.2).toNat=0 then L (0,if(hm x&&hm y)=ao then 1 else 0)
 else eZ k (x.1*2^(x.2-min x.2 y.2).toNat+y.1*2^(y.2-min x.2 y.2).toNat) (min x.2 y.2):=by
 unfold ij;by_cases c:0<x.2-y.2
 ·rw[aH c,show min x.2 y.2=y.2 by omega,show(y.2-y.2).toNat=0 by omega,Jy,E9]
 ·rw[ay c,show min x.2 y.2=x.2 by omega,show(x.2-x.2).toNat=0 by omega,Jy,E9,show(-(x.2-y.2)).toNat=(y.2-x.2).toNat by omega]
theorem F2(k:aB)(n:c_)(hk:2<=2^k.expo-1):bf k (fH k n)=(0,if n=ao then 1 else 0)/\cQ k (fH k n):=by
 obtain⟨w1,w2,w3,w4⟩:=EW k n<|eV _;rw[zS] at w1 w2 w3 w4;constructor
 ·unfold bf
  rw[w1,w2,aH J]
 ·refine⟨w3,?_⟩
  unfold jv;exact bne_iff_ne.mpr om
def Gives(k:aB)(r:aw<|ae×ae)(o:aw F):Prop:=r=o.map (bf k)/\ ∀x,o=L x->cQ k x
theorem Uh(k:aB)(hk:2<=2^k.expo-1)(hf:1<=k.frac)(ha:a≠0)(hu:g<=u)(hv:g<=v)(h:EqAt a u b v g):Gives k (eZ k a u)<|fv k (decide (b<0)) b.natAbs v aK:=by
 have p1:=mi (u-g).toNat;have p2:=mi (v-g).toNat;have hs:(a<0)↔(b<0):=by
  unfold EqAt at h;constructor
  ·intro c
   have:=Ol c p1;apply qV;intro d;have:0<=b*2^(v-g).toNat:=WS om om;omega
  ·intro c
   have:=Ol c p2;apply qV;intro d;have:0<=a*2^(u-g).toNat:=WS om om;omega
 have hn:a.natAbs*2^(u-g).toNat=b.natAbs*2^(v-g).toNat:=by
  have:=gH Int.natAbs h;rw[E_,E_,Jx,Jx] at this;exact this
 have e:fv k (decide (b<0)) b.natAbs v aK=fv k (decide (a<0)) a.natAbs u aK:=by
  rw[<-Ui k _ a.natAbs hu,<-Ui k _ b.natAbs hv,hn];simp[hs]
 rw[e];exact Ej k u hk hf ha
theorem Ed(k:aB)(hk:2<=2^k.expo-1)(hf:1<=k.frac)(hx:SV s m e x)(hy:SV t n f y):Gives k (ij k x y)<|joined k s m e t n f:=by
 rw[plusP_eq,hx.hm,hy.hm];unfold joined;have es:∀b,(if b=ao then(-1) else 1)=sg b:=λ_=>J;simp only[es];have vx:=hx.val (min (min x.2 y.2)<|min e f) om om;have vy:=hy.val (min (min x.2 y.2)<|min e f) om om;generalize hM:x.1*2^(x.2-min x.2 y.2).toNat+y.1*2^(y.2-min x.2 y.2).toNat=aJ;generalize hN:sg s*(m*2^(e-min e f).toNat:af)+sg t*(n*2^(f-min e f).toNat:af)=N;have hE:EqAt aJ (min x.2 y.2) N (min e f) (min (min x.2 y.2)<|min e f):=by
  unfold EqAt at*;rw[<-hM,<-hN,Int.add_mul,Int.add_mul,jD,jD,<-pG om om,<-pG om om,vx,vy];rw[qf,qf,iS,iS];rw[jD,jD,jD,jD,jD,jD,<-pG om om,<-pG om om]
 have hz:aJ=0↔N=0:=by
  unfold EqAt at hE;have p1:=mi (min x.2 y.2-min (min x.2 y.2) (min e f)).toNat;have p2:=mi (min e f-min (min x.2 y.2) (min e f)).toNat;constructor
  ·intro c
   rw[c,Fb] at hE;rcases Int.mul_eq_zero.mp hE.symm with d|d<;>omega
  ·intro c
   rw[c,Fb] at hE;rcases Int.mul_eq_zero.mp hE with d|d<;>omega
 by_cases c:aJ=0
 ·rw[aH c,aH<|hz.mp c]
  obtain⟨d1,d2⟩:=F2 k (s&&t) hk;refine⟨?_,λz hz=>by cases hz;exact d2⟩;show _=L (bf k _);rw[d1]
 ·rw[ay c,ay λz=>c<|hz.mpr z]
  exact Uh k hk hf c om om hE
def jz(x y:ae×ae):ae×ae:=(0,if(hm x !=hm y)=ao then 1 else 0)
def nZ(k:aB)(x y:ae×ae):aw<|ae×ae:=if x.1*y.1=0 then L (jz x y) else eZ k (x.1*y.1) (x.2+y.2)
def iB(x y:ae×ae):ae×ae:=if x.1*y.1=0 then jz x y else(x.1*y.1,x.2+y.2)
def gx(x:ae×ae):ae×ae:=if x.1=0 then(0,1-x.2) else(-x.1,x.2)
theorem sg_mul(s t:c_):sg s*sg t=sg (s !=t):=by cases s<;>cases t<;>rfl
theorem SV.exact(hx:SV s m e x)(hy:SV t n f y):SV (s !=t) (m*n) (e+f)<|iB x y:=by
 unfold iB
 split
 ·rename_i z
  have zz:m*n=0:=by
   rcases Int.mul_eq_zero.mp z with c|c
   ·rw[hx.n_.mp c,zU]
   ·rw[hy.n_.mp c,Nat.mul_zero]
  unfold jz;rw[hx.hm,hy.hm];refine⟨λ_=>J,λg _ _=>?_⟩;unfold EqAt;rw[zz];simp
 ·rename_i z
  have v1:=hx.val (min e x.2) om om;have v2:=hy.val (min f y.2) om om;refine SV.one (g:=min e x.2+min f y.2) (λc=>absurd c z) om (by omega) ?_;unfold EqAt at*;rw[show(x.2+y.2-_).toNat=(x.2-min e x.2).toNat+(y.2-min f y.2).toNat by omega];rw[show(e+f-_).toNat=(e-min e x.2).toNat+(f-min f y.2).toNat by omega];rw[Oo,Oo,<-sg_mul,qf]
  calc x.1*y.1*_=x.1*2^(x.2-min e x.2).toNat*(y.1*2^(y.2-min f y.2).toNat):=by ac_rfl
   _=_:=by rw[v1,v2]
   _=_:=by ac_rfl
theorem SV.D9(hx:SV s m e x):SV (!s) m e<|gx x:=by
 unfold gx
 split
 ·rename_i z
  have:=hx.zero z;refine⟨λ_=>by rw[this];cases s<;>rfl,λg _ _=>?_⟩;unfold EqAt;rw[hx.n_.mp z];simp
 ·rename_i z
  refine⟨λc=>absurd c<|by omega,λg h1 h2=>?_⟩;have v:=hx.val g h1 h2;unfold EqAt at*;rw[Int.neg_mul,v]
  cases s<;>simp[sg,Int.neg_mul]
theorem times_spec(k:aB)(hk:2<=2^k.expo-1)(hf:1<=k.frac)(hx:SV s m e x)(hy:SV t n f y):Gives k (nZ k x y)<|fv k (s !=t) (m*n) (e+f) aK:=by
 have hE:=hx.exact hy;unfold nZ;unfold iB at hE;by_cases z:x.1*y.1=0
 ·rw[aH z]
  rw[aH z] at hE;have zz:=hE.n_.mp J;unfold fv;rw[aH zz];obtain⟨d1,d2⟩:=F2 k (s !=t) hk;refine⟨?_,λz hz=>by cases hz;exact d2⟩;show _=L (bf k _);rw[d1];unfold jz;rw[hx.hm,hy.hm]
 ·rw[ay z]
  rw[ay z] at hE;have v:=hE.val (min (e+f)<|x.2+y.2) om<|by omega
  have g:=Uh k hk hf z om om v;have gR:m*n≠0:=λc=>z<|hE.n_.mpr c;have e1:(sg (s !=t)*(m*n:af)).natAbs=m*n:=by
   rcases oP (s !=t) with⟨_,q⟩|⟨_,q⟩<;>rw[q]<;>omega
  have e2:decide (sg (s !=t)*(m*n:af)<0)=(s !=t):=by
   rcases oP (s !=t) with⟨c,q⟩|⟨c,q⟩<;>rw[q,c]
   ·exact dD om
   ·exact gW om
  rw[e1,e2] at g;exact g
end Bw
namespace Bw
open Rb49
theorem bS.expo(h:bS k):2<=2^k.expo-1:=by rcases h with rfl|rfl<;>decide
theorem bS.frac(h:bS k):1<=k.frac:=by rcases h with rfl|rfl<;>decide
structure cn(k:aB)(p:ae×ae)(a:af):Prop where
 fits:cQ k a
 sv:SV (dM k a) (whole k a).1 (whole k a).2 p
 small:p.1.natAbs<2^53/\ -1074<=p.2/\p.2<=971
theorem Jc(k:aB)(x:af):k.least<=(whole k x).2:=by
 unfold whole
 split
 ·exact Int.le_refl _
 ·show _<=k.least+(field k x)-1
  omega
theorem C0(k:aB)(x:af):SV (dM k x) (whole k x).1 (whole k x).2<|bf k x:=by
 unfold bf
 split
 ·rename_i z
  refine⟨λ_=>J,λg _ _=>?_⟩;unfold EqAt;rw[z];simp
 ·rename_i z
  refine⟨λc=>?_,λg _ _=>J⟩;rcases oP _ with⟨_,q⟩|⟨_,q⟩<;>rw[q] at c<;>omega
theorem Wj{a:af}(h:jv k a=ao)(hk:2<=2^k.expo-1):(whole k a).2<=aN k:=by
 have h1:field k a<2^k.expo:=qZ _<|eV _;have h2:=bne_iff_ne.mp h;unfold whole aN
 split
 ·show k.least<=_
  omega
 ·show k.least+(field k a)-1<=_
  omega
theorem N6(k:aB)(a:af):(whole k a).1<2^(k.frac+1):=by
 unfold whole
 split
 ·show a%2^k.frac<_
  omega
 ·show a%2^k.frac+2^k.frac<_
  omega
theorem cn.bf(hk:bS k)(h:cQ k a):cn k (bf k a) a:=by
 refine⟨h,C0 k a,?_⟩;have h1:=N6 k a;have h2:=Jc k a;have h3:=Wj h.2 hk.expo;have b:(-1074)<=k.least/\aN k<=971/\2^(k.frac+1)<=2^53:=by rcases hk with rfl|rfl<;>decide
 unfold Bw.bf
 split
 ·refine⟨by show(0:ae).natAbs<2^53;decide,?_,?_⟩<;>show _<=_<;>split<;>decide
 ·refine⟨?_,WR b.1 h2,WR h3 b.2.1⟩
  have:(sg (dM k a)*((whole k a).1)).natAbs=(whole k a).1:=by rcases oP _ with⟨_,q⟩|⟨_,q⟩<;>rw[q]<;>omega
  omega
section
variable{k:aB}{x y z:ae×ae}{a b c:af}
theorem Ub(hk:bS k)(hx:cn k x a)(hy:cn k y b):Gives k (ij k x y)<|add k a b:=Ed k hk.expo hk.frac hx.sv hy.sv
theorem rep_mul(hk:bS k)(hx:cn k x a)(hy:cn k y b):Gives k (nZ k x y)<|mul k a b:=times_spec k hk.expo hk.frac hx.sv hy.sv
theorem Ao(b:c_):(b !=aK)=b:=by cases b<;>rfl
theorem FO(b:c_):(b !=ao)= !b:=by cases b<;>rfl
theorem rep_ma(hk:bS k)(hx:cn k x a)(hy:cn k y b)(hz:cn k z c):Gives k (ij k (iB x y) z)<|ma k a b c:=by
 unfold ma fused;rw[Ao,Ao];exact Ed k hk.expo hk.frac (hx.sv.exact hy.sv) hz.sv
theorem rep_ms(hk:bS k)(hx:cn k x a)(hy:cn k y b)(hz:cn k z c):Gives k (ij k (iB x y)<|gx z)<|ms k a b c:=by
 unfold ms fused;rw[Ao,FO];exact Ed k hk.expo hk.frac (hx.sv.exact hy.sv) hz.sv.D9
theorem rep_nma(hk:bS k)(hx:cn k x a)(hy:cn k y b)(hz:cn k z c):Gives k (ij k (gx<|iB x y) z)<|nma k a b c:=by
 unfold nma fused;rw[FO,Ao];exact Ed k hk.expo hk.frac (hx.sv.exact hy.sv).D9 hz.sv
theorem rep_nms(hk:bS k)(hx:cn k x a)(hy:cn k y b)(hz:cn k z c):Gives k (ij k (gx<|iB x y)<|gx z)<|nms k a b c:=by
 unfold nms fused;rw[FO,FO];exact Ed k hk.expo hk.frac (hx.sv.exact hy.sv).D9 hz.sv.D9
theorem Mj(h:a<2*k.sign):dM k (qF k a)= !dM k a/\whole k (qF k a)=whole k a/\qF k a<2*k.sign/\field k (qF k a)=field k a:=by
 have hA:=eV k.frac;have dZ:∀u,field k (u+k.sign)=field k u/\(u+k.sign)%2^k.frac=u%2^k.frac:=λu=>by
  constructor
  ·unfold field
   rw[xo,Xh _ _ hA,Nat.add_mod_right]
  ·rw[xo,Xi]
 unfold qF;by_cases n:k.sign<=a
 ·have hn:dM k a=ao:=dD n
  rw[hn,aH J];have kk:=dZ<|a-k.sign;rw[show a-k.sign+k.sign=a by omega] at kk;refine⟨gW om,?_,(show(a-k.sign)<2*k.sign by omega),kk.1.symm⟩;unfold whole;rw[kk.1,kk.2]
 ·have hn:dM k a=aK:=gW n
  rw[hn,ay dc];have kk:=dZ a;refine⟨dD om,?_,(show(a+k.sign)<2*k.sign by omega),kk.1⟩;unfold whole;rw[kk.1,kk.2]
theorem KC(h:cQ k a):cQ k<|qF k a:=by
 obtain⟨_,_,h3,h4⟩:=Mj h.1;refine⟨h3,?_⟩;have:=h.2;unfold jv at*;rw[h4];exact this
theorem rep_opp(h:cn k x a):cn k (gx x)<|qF k a:=by
 obtain⟨h1,h2,h3,h4⟩:=Mj h.fits.1;refine⟨KC h.fits,by rw[h1,h2];exact h.sv.D9,?_⟩;have sm:=h.small;unfold gx
 split
 ·rename_i z
  have:=h.sv.zero z;refine⟨by show(0:ae).natAbs<2^53;decide,?_,?_⟩
  ·show-1074<=1-x.2
   split at this<;>omega
  ·show 1-x.2<=971
   split at this<;>omega
 ·exact⟨by omega,sm.2⟩
theorem Qi(h:a<2*k.sign):gx (bf k a)=bf k (qF k a):=by
 obtain⟨h1,h2,h3,h4⟩:=Mj h;unfold bf gx;rw[h1,h2];by_cases z:(whole k a).1=0
 ·rw[aH z,aH z,aH J]
  cases dM k a<;>rfl
 ·rw[ay z,ay z]
  have:¬sg (dM k a)*((whole k a).1)=0:=by rcases oP _ with⟨_,q⟩|⟨_,q⟩<;>rw[q]<;>omega
  rw[ay this]
  cases dM k a<;>simp[sg]
theorem rep_sub(hk:bS k)(hx:cn k x a)(hy:cn k y b):Gives k (ij k x<|gx y)<|sub k a b:=Ub hk hx<|rep_opp hy
def kZ(x:ae×ae):ae×ae:=if hm x=ao then gx x else x
theorem U2(h:a<2*k.sign):size k a=if dM k a=ao then qF k a else a:=by
 unfold size qF;by_cases n:k.sign<=a
 ·have hn:dM k a=ao:=dD n
  rw[hn,aH J,aH J,OK n,qY om]
 ·have hn:dM k a=aK:=gW n
  rw[hn,ay dc,qY om]
theorem Zb(h:a<2*k.sign):kZ (bf k a)=bf k (size k a):=by
 unfold kZ;rw[(C0 k a).hm,U2 h];by_cases n:dM k a=ao
 ·rw[aH n,aH n,Qi h]
 ·rw[ay n,ay n]
theorem size_lt(a:af): @LT.lt af _ (size k a) k.sign:=qZ _ (by unfold Jz;exact eV _)
theorem size_pos(a:af):dM k (size k a)=aK:=gW (Nat.not_le_of_lt<|size_lt a)
theorem QC(h:cQ k a):cQ k<|size k a:=by
 rw[U2 h.1]
 split
 ·exact KC h
 ·exact h
theorem size_sign(a:af):size k a+k.sign=qF k (size k a):=by
 unfold qF;rw[size_pos,ay dc]
def jJ(x y:ae×ae):c_:=if 0<x.2-y.2 then decide (x.1*2^(x.2-y.2).toNat<y.1) else decide (x.1<y.1*2^(-(x.2-y.2)).toNat)
theorem GX{u v p:ae}(hp:0<p):u*p<v*p↔u<v:=⟨λh=>Int.lt_of_mul_lt_mul_right h<|Int.le_of_lt hp,λh=>Int.mul_lt_mul_of_pos_right h hp⟩
theorem rep_below(hx:cn k x a)(hy:cn k y b):jJ x y=below k a b:=by
 have e0:jJ x y=decide (x.1*2^(x.2-min x.2 y.2).toNat<y.1*2^(y.2-min x.2 y.2).toNat):=by
  unfold jJ;by_cases c:0<x.2-y.2
  ·rw[aH c,show min x.2 y.2=y.2 by omega,show(y.2-y.2).toNat=0 by omega,Jy,E9]
  ·rw[ay c,show min x.2 y.2=x.2 by omega,show(x.2-x.2).toNat=0 by omega,Jy,E9,show(-(x.2-y.2)).toNat=(y.2-x.2).toNat by omega]
 rw[e0];unfold below zI;have la:=Jc k a;have lb:=Jc k b;have vx:=hx.sv.val (min (min x.2 y.2) k.least) om om;have vy:=hy.sv.val (min (min x.2 y.2) k.least) om om;have p1:=mi (min x.2 y.2-min (min x.2 y.2) k.least).toNat;have p2:=mi (k.least-min (min x.2 y.2) k.least).toNat;rw[Kr,<-GX p1,jD,jD,<-pG om om,<-pG om om,vx,vy,<-GX p2];rw[pG om la,pG om lb];rw[<-jD,<-jD,qf,qf,iS,iS,<-jD,<-jD,GX p2,GX p2];rfl
theorem rep_isZero(hx:cn k x a):(x.1=0)↔isZero k a=ao:=by
 rw[hx.sv.n_];unfold isZero zI;have p2:=eV ((whole k a).2-k.least).toNat;rw[decide_eq_true_iff];constructor
 ·intro z
  rw[z,zU];simp
 ·intro z
  rcases Int.mul_eq_zero.mp z with c|c
  ·split at c<;>omega
  ·rcases Nat.mul_eq_zero.mp (Int.natCast_eq_zero.mp c) with d|d<;>omega
end
end Bw
namespace Bw
open Rb49
theorem yT(h:n+1<=a.log2):a≠0:=by
 rintro rfl
 have:mT 0=0:=by decide
 omega
section
variable{k:aB}
theorem quot_step(neg:c_)(t:ae)(hB:0<B)(hl:k.frac+1<=(X/B).log2):fv k neg (2*X/B) (t-1) (2*X%B !=0)=fv k neg (X/B) t (X%B !=0):=by
 have hq:=yT hl;have d:=zT X B;have r1:X%B<B:=qZ _ hB;generalize hQ:X/B=Q at*;generalize hR:X%B=R at*;have dZ:2*X=B*(2*Q)+2*R:=by rw[<-d,JN,Nat.mul_left_comm]
 have e1:2*X/B=2*Q+2*R/B:=by rw[dZ,Nat.mul_add_div hB]
 have e2:2*X%B=2*R%B:=by rw[dZ,Nat.mul_add_mod]
 have hb:2*R/B<=1:=by
  have:2*R/B<2:=(Fh hB).mpr om;omega
 rw[e1,e2];refine HL k neg t hq hb hl (λc=>?_) λc=>?_
 ·have c:=by simpa using c
  subst c;simp
 ·have c:=by simpa using c
  by_cases h:2*R<B
  ·right
   rw[qY h];simp;omega
  ·left
   have:1<=2*R/B:=(JI hB).mpr om;omega
theorem T3(neg:c_)(t:ae)(hB:0<B)(c:af)(hl:k.frac+1<=(A*2^c/B).log2):∀j,k.frac+1<=(A*2^(c+j)/B).log2/\fv k neg (A*2^(c+j)/B) (t-(c+j:af)) (A*2^(c+j)%B !=0)=fv k neg (A*2^c/B) (t-c) (A*2^c%B !=0)
 |0=>⟨hl,J⟩
 |j+1=>by
  obtain⟨i1,i2⟩:=T3 neg t hB c hl j;have e:A*2^(c+(j+1))=2*(A*2^(c+j)):=by rw[<-OH,pf,<-Fm,lU]
  constructor
  ·rw[e]
   have h0:=yT i1;have h1:A*2^(c+j)/B<=2*(A*2^(c+j))/B:=Nat.div_le_div_right om;have h2:=(qg h0).mp i1;exact(qg (tq<|gn (Nat.pos_of_ne_zero h0) h1)).mpr<|dJ h2 h1
  ·rw[e,<-i2,<-quot_step neg (t-(c+j:af)) hB i1]
   congr 1
   omega
def fZ(k:aB)(x y:ae×ae):ae:=max 0<|(k.frac+1:af)+2+(fK y.1)-(fK x.1)
def lI(k:aB)(x y:ae×ae):aw<|ae×ae:=if y.1=0 then ah else if x.1=0 then L (jz x y) else
  let zk:=(x.1.natAbs:ae)*2^(fZ k x y).toNat;let m:=2*(zk/(y.1.natAbs))+(if zk%(y.1.natAbs)=0 then 0 else 1)
  eZ k (if(hm x !=hm y)=ao then-m else m) (x.2-y.2-fZ k x y-1)
theorem F0(k:aB)(a:af):(bf k a).1=sg (dM k a)*((whole k a).1):=by
 unfold bf
 split
 ·rename_i z
  rw[z];simp
 ·rfl
theorem rK(k:aB)(a:af):(bf k a).1.natAbs=(whole k a).1:=by
 rw[F0];rcases oP _ with⟨_,q⟩|⟨_,q⟩<;>rw[q]<;>omega
theorem yo{a:af}(h:(bf k a).1≠0):(bf k a).2=(whole k a).2:=by
 have:(whole k a).1≠0:=by rw[<-rK];omega
 unfold bf;rw[ay this]
theorem rep_div(hk:bS k)(_ha:cQ k a)(_hb:cQ k b):Gives k (lI k (bf k a)<|bf k b)<|div k a b:=by
 have sa:=C0 k a;have sb:=C0 k b;unfold lI;have e1:div k a b=if(whole k b).1=0 then ah else fv k _ _ _ _:=J
 rw[e1];by_cases zb:(bf k b).1=0
 ·rw[aH zb,aH<|sb.n_.mp zb]
  exact⟨J,λ_ h=>nomatch h⟩
 rw[ay zb,ay λc=>zb<|sb.n_.mpr c];by_cases za:(bf k a).1=0
 ·rw[aH za,sa.n_.mp za]
  unfold fv;rw[zU,Xv,aH J];obtain⟨d1,d2⟩:=F2 k _ hk.expo;refine⟨?_,λz hz=>by cases hz;exact d2⟩;show _=L (bf k _);rw[d1];unfold jz;rw[sa.hm,sb.hm]
 rw[ay za];simp only[sa.hm,sb.hm,rK,yo za,yo zb];have K0:=λc=>za<|sa.n_.mpr c;have K1:(whole k b).1≠0:=λc=>zb<|sb.n_.mpr c;have Dc:=N6 k b;have ll:fZ k (bf k a) (bf k b)=max 0 ((k.frac+1:af)+2+((whole k b).1.log2+1:af)-(((whole k a).1.log2+1:af):ae)):=by
  unfold fZ;rw[Am za,Am zb,rK,rK]
 generalize(dM k a !=dM k b)=neg;generalize(whole k a).2-(whole k b).2=t;generalize(whole k a).1=A at*;generalize(whole k b).1=B at*;generalize fZ k (bf k a) (bf k b)=cM at*;have lB:=(vI K1).mpr Dc;obtain⟨l,rfl⟩:∃l:af,cM=l:=⟨cM.toNat,om⟩;have QT:0<B:=by omega
 have Lk:=by
  have h1:2^(A.log2+l)<=A*2^l:=by rw[jm];exact B8 _<|r8 K0
  have h2:B<=2^_:=B7 log2_lt;have h3:2^(k.frac+1)<=A*2^l/B:=by
   rw[JI QT]
   calc 2^(k.frac+1)*B<=2^(k.frac+1)*2^_:=Xs _ h2
    _=2^(k.frac+1+_):=(jm 2 (k.frac+1) _).symm
    _<=2^_:=jY om om
    _<=_:=h1
  exact(qg om).mpr h3
 have rS:k.frac<=52:=by rcases hk with rfl|rfl<;>decide
 have yG:=(T3 neg t QT l Lk<|120-l).2;rw[show l+_=120 by omega] at yG;have hq0:=yT Lk;have c1:(A*2^(l:ae).toNat)=((A*2^l:af):ae):=by rw[qf,iS];simp
 rw[c1];have c2:(2*((A*2^l:af)/B)+(if(A*2^l:af)%(B:ae)=0 then 0 else 1))=((2*(A*2^l/B)+(if A*2^l%B=0 then 0 else 1):af):ae):=by
  split<;>split<;>omega
 rw[c2];have st:=HL k neg (b:=if A*2^l%B=0 then 0 else 1) (t-l) (s:=A*2^l%B !=0) hq0 (by split<;>omega) Lk
  (λc=>by
    have c:=by simpa using c
    exact⟨aH c,J⟩)
  (λc=>by
    have c:=by simpa using c
    exact .inl<|ay c)
 rw[show((120:af):ae)=120 from J] at yG;rw[yG,<-st];generalize hM:2*_+(if A*2^l%B=0 then 0 else 1)=aJ;have rs:=Ej k (m:=if neg=ao then-aJ else aJ) (t-l-1) hk.expo hk.frac<|by split<;>omega
 have n1:(if neg=ao then-(aJ:ae) else aJ).natAbs=aJ:=by split<;>omega
 have n2:decide ((if neg=ao then-(aJ:ae) else aJ)<0)=neg:=by
  cases neg
  ·exact gW<|by simp
  ·exact dD (by simp;omega)
 rw[n1,n2] at rs;exact rs
end
def mL(m r:af):Prop:=r*r<=m/\m<(r+1)*(r+1)
theorem mL.zH(h:mL m r)(g:mL m s):r=s:=by
 have dZ:∀{r s:af},mL m r->mL m s->r<=s:=λ{r s}h g=>by
  apply qV;intro c;have:(s+1)*(s+1)<=r*r:=q_ om om;have:=h.1;have:=g.2;omega
 exact Nat.le_antisymm (dZ h g)<|dZ g h
theorem MC(m:af):∀n lo hi,lo<hi->lo*lo<=m->m<hi*hi->hi-lo<=2^n->mL m (rootFrom n lo hi m)
 |0,lo,hi,h0,h1,h2,h3=>by
  have:hi=lo+1:=by simp at h3;omega
  subst this;exact⟨h1,h2⟩
 |n+1,lo,hi,h0,h1,h2,h3=>by
  unfold rootFrom
  split
  ·have:hi=lo+1:=by omega
   subst this;exact⟨h1,h2⟩
  ·have hp:2^(n+1)=2*2^n:=by rw[pf];omega
   show mL m (if _/2*_<=m then _ else _)
   split
   ·rename_i c
    exact MC m n _ _ om c h2 om
   ·rename_i c
    exact MC m n _ _ om h1 om om
theorem wm(m:af):mL m<|floorRoot m:=by
 refine MC m _ _ _ om om ?_ ?_
 ·have:m+1<=(m+1)*(m+1):=Nat.le_mul_of_pos_right _ om
  omega
 ·have h1:=log2_lt (a:=m)
  have h2:2^(m.log2+1)<=2^(2*m.log2+4):=jY om om;omega
theorem newton_start:n<(2^((n.log2+1+1)/2)+1)*(2^((n.log2+1+1)/2)+1):=by
 have h1:=log2_lt (a:=n);have h2:2^(n.log2+1)<=2^((n.log2+1+1)/2+(n.log2+1+1)/2):=jY om om;rw[jm 2<|_/2] at h2;generalize 2^(_/2)=g at*;have:g*g<=(g+1)*(g+1):=q_ om om;omega
theorem ZG(x y:af):4*(x*y)<=(x+y)*(x+y):=by
 have h:∀a b,a<=b->4*(a*b)<=(a+b)*(a+b):=λa b QW=>by
  obtain⟨c,rfl⟩:=Nat.exists_eq_add_of_le QW;have e:(a+(a+c))*(a+(a+c))=4*(a*(a+c))+c*c:=by
   simp[Nat.add_mul,JN,lU c a];omega
  omega
 rcases Xo x y with c|c
 ·exact h x y c
 ·have:=h y x c
  rw[lU x y,OI x y];exact this
theorem newton_step(hn:0<n)(hg:0<g)(hb:(g+n/g)/2<g):0<(g+n/g)/2/\n<((g+n/g)/2+1)*((g+n/g)/2+1):=by
 have d:=zT n g;have r:=qZ n hg;generalize n/g=q at*;constructor
 ·by_cases c:g=1
  ·subst c
   omega
  ·omega
 ·generalize hB:_/2+1=B
  have h1:g+(q+1)<=2*B:=by omega
  have h2:=ZG g<|q+1;have h3:=q_ h1 h1;have h4:(2*B)*(2*B)=4*(B*B):=by rw[B_]
  have h5:n<g*(q+1):=by rw[JN,Nat.mul_one];omega
  omega
theorem newton_end(hg:0<g)(h:n<(g+1)*(g+1))(hb:¬(g+n/g)/2<g):mL n g:=by
 refine⟨?_,h⟩;have:g<=n/g:=by omega
 exact(JI hg).mp this
section
variable{k:aB}
theorem root_step(t:ae)(hr:mL m r)(hs:mL (4*m) s)(hl:k.frac+1<=r.log2):fv k aK s (t-1) (s*s !=4*m)=fv k aK r t (r*r !=m):=by
 have wC:=yT hl;obtain⟨h1,h2⟩:=hr;obtain⟨g1,g2⟩:=hs;have lo:2*r<=s:=by
  apply qV;intro c;have:(s+1)*(s+1)<=(2*r)*(2*r):=q_ om om;rw[B_] at this;omega
 have hi:s<=2*r+1:=by
  apply qV;intro c;have:(2*(r+1))*(2*(r+1))<=s*s:=q_ om om;rw[B_] at this;omega
 obtain⟨b,rfl⟩:∃b,s=2*r+b:=⟨s-2*r,om⟩;refine HL k aK t wC om hl (λc=>?_) λc=>?_
 ·have c:=by simpa using c
  have b0:b=0:=by
   apply qV;intro z;have z:b=1:=by omega
   subst z;have:(2*r)*(2*r)<(2*r+1)*(2*r+1):=OL om om;rw[B_] at this;omega
  subst b0;rw[<-c,zS,B_];simp
 ·have c:=by simpa using c
  by_cases z:b=1
  ·exact .inl z
  ·have z:b=0:=by omega
   subst z;rw[zS,B_];simp;omega
theorem Ug(t:ae)(c:af)(hr:mL (A*2^c) r)(hl:k.frac+1<=r.log2):∀j{s:af},mL (A*2^(c+2*j)) s->k.frac+1<=s.log2/\fv k aK s (t-j) (s*s !=A*2^(c+2*j))=fv k aK r t (r*r !=A*2^c)
 |0,s,hs=>by
  have e:=hs.zH hr;subst e;exact⟨hl,by simp⟩
 |j+1,s,hs=>by
  obtain⟨i1,i2⟩:=Ug t c hr hl j<|wm _;have e:A*2^(c+2*(j+1))=4*(A*2^(c+2*j)):=by
   rw[show c+2*_=(c+2*j)+2 by omega,jm];rw[<-Fm,lU]
  rw[e] at hs⊢;have st:=root_step (t-j) (wm _) hs i1;constructor
  ·have fr:=(wm<|A*2^(c+2*j)).1
   generalize floorRoot _=r' at*;have h0:=yT i1;have h1:=(qg h0).mp i1;have:r'<=s:=by
    apply qV;intro d;have:(s+1)*(s+1)<=r'*r':=q_ om om;have:=hs.2;omega
   exact(qg om).mpr om
  ·rw[<-i2,<-st]
   congr 1
   omega
end
end Bw
namespace Bw
open Rb49
section
variable{k:aB}
def lM(k:aB)(x:ae×ae):aw<|ae×ae:=if x.1=0 then L x else if x.1<0 then ah else
  let l:ae:=2*(k.frac+1:af)+4+x.2%2;let zk:af:=x.1.toNat*2^l.toNat
  eZ k (2*(floorRoot zk)+(if floorRoot zk*floorRoot zk=zk then 0 else 1)) ((x.2-l)/2-1)
theorem rep_root(hk:bS k)(ha:cQ k a):Gives k (lM k<|bf k a)<|root k a:=by
 have sa:=C0 k a;unfold lM;have e1:root k a=if(whole k a).1=0 then L a else if dM k a=ao then ah else
  fv k aK _ _
   _:=J
 rw[e1];by_cases za:(bf k a).1=0
 ·rw[aH za,aH<|sa.n_.mp za]
  exact⟨J,λz hz=>by cases hz;exact ha⟩
 have K0:(whole k a).1≠0:=λc=>za<|sa.n_.mpr c;rw[ay za,ay K0];by_cases hn:dM k a=ao
 ·have:(bf k a).1<0:=by
   rw[F0,hn];show-1*_<0;omega
  rw[aH this,aH hn];exact⟨J,λ_ h=>nomatch h⟩
 have mf:=by simpa using hn
 have hd:(bf k a).1=((whole k a).1:ae):=by
  rw[F0,mf];show 1*_=_;omega
 rw[ay (by rw[hd];omega),ay hn,yo za];have ht:(bf k a).1.toNat=(whole k a).1:=by rw[hd];omega
 rw[ht];show Gives k (eZ k _ _) _;generalize(whole k a).1=A at*;generalize(whole k a).2=e at*;have rS:k.frac<=52:=by rcases hk with rfl|rfl<;>decide
 obtain⟨l,hl⟩:∃l:af,(2*(k.frac+1:af)+4+e%2)=l:=⟨(2*(k.frac+1:af)+4+e%2).toNat,om⟩;rw[hl,show((l:ae)).toNat=l by omega];have fr:=wm<|A*2^l;have wA:k.frac+1<=(floorRoot<|A*2^l).log2:=by
  generalize floorRoot (A*2^l)=r at*;have h1:2^(k.frac+2)*2^(k.frac+2)<=A*2^l:=by
   rw[<-jm]
   calc 2^(k.frac+2+(k.frac+2))<=2^l:=jY om om
    _<=A*2^l:=Xn _ om
  have h2:2^(k.frac+2)<=r:=by
   apply qV;intro c;have:(r+1)*(r+1)<=2^(k.frac+2)*2^(k.frac+2):=q_ om om;have:=fr.2;omega
  have h3:=eV<|k.frac+2;have h4:2^(k.frac+1)<=2^(k.frac+2):=jY om om;exact(qg om).mpr om
 obtain⟨j,hj⟩:∃j:af,(if e%2=0 then 120 else 121:af)=l+2*j:=⟨57-k.frac,by split<;>omega⟩;rw[hj];have sc:=(Ug ((e-l)/2) l fr wA j<|wm _).2;rw[show(e-(l+2*j:af))/2=(e-l)/2-j by omega,sc];have st:=HL k aK (b:=if floorRoot _*floorRoot _=A*2^l then 0 else 1) ((e-l)/2) (s:=floorRoot (A*2^l)*floorRoot (A*2^l)!=A*2^l) (yT wA) (by split<;>omega) wA
  (λc=>by
    have c:=by simpa using c
    exact⟨aH c,J⟩)
  (λc=>by
    have c:=by simpa using c
    exact .inl<|ay c)
 rw[<-st];have wC:=yT wA;generalize floorRoot (A*2^l)=r at*;have c2:2*r+(if r*r=A*2^l then 0 else 1)=((2*r+(if r*r=A*2^l then 0 else 1):af):ae):=by split<;>omega
 rw[c2];generalize hM:2*r+(if r*r=A*2^l then 0 else 1)=aJ;have rs:=Ej k (m:=aJ) ((e-(l:ae))/2-1) hk.expo hk.frac om;exact rs
def nE(k:aB)(PX:ae):aw<|ae×ae:=let S:=k.frac+k.expo;let sI:=PX/2^S;let size:=PX-sI*2^S;let rT:ae:=2^k.frac;let fld:=size/rT
 if aN k-k.least+1<fld then ah
 else if size=0 then L (0,sI)
 else
  let m:=if fld=0 then size else size%rT+rT
  let e:=if fld=0 then k.least else k.least+fld-1
  L (if sI=1 then-m else m,e)
theorem ZJ(hx:x<2*k.sign):nE k x=if jv k x=ao then L (bf k x) else ah:=by
 have hA:=eV k.frac;have hE:=eV k.expo;obtain⟨n,f,r,hn,hf,hr,rfl⟩:∃(n:c_)(f r:af),n=dM k x/\f<2^k.expo/\r<2^k.frac/\x=fH k n+f*2^k.frac+r:=by
  refine⟨dM k x,x%k.sign/2^k.frac,x%k.sign%2^k.frac,J,?_,qZ _ hA,?_⟩
  ·rw[Fh hA,lU,<-xo]
   exact qZ _ (by rw[xo];exact OO hA hE)
  ·have:=zT (x%k.sign)<|2^k.frac
   rw[OH,lU _ _,this];unfold fH dM;by_cases c:k.sign<=x
   ·rw[dD c,aH J,OK c,qY om]
    omega
   ·rw[gW c,ay dc,qY om]
    omega
 obtain⟨p1,p2,p3,p4,p5⟩:=F9 k n hf hr;have UY:(fH k n+f*2^k.frac+r:af)=(f*2^k.frac+r:af)+(if n=ao then 1 else 0)*((2:ae)^(k.frac+k.expo)):=by
  have:2^(k.frac+k.expo)=(k.sign:ae):=by unfold Jz;rw[iS]
  unfold fH
  split<;>omega
 have hdiv:((fH k n+f*2^k.frac+r:af):ae)/2^(k.frac+k.expo)=if n=ao then 1 else 0:=by
  rw[UY,WN _ _ (WW<|mi _)];rw[WQ om (by rw[<-iS];exact Int.ofNat_lt.mpr p5)];omega
 have nJ:(fH k n+f*2^k.frac+r:af)-(if n=ao then 1 else 0)*(2^(k.frac+k.expo))=((f*2^k.frac+r:af):ae):=by rw[UY];omega
 have hfld:(f*2^k.frac+r:af)/2^k.frac=(f:ae):=by
  rw[<-iS,<-Om,OI,Nat.add_mul_div_right _ _ hA,Xl hr,Fn]
 have hrem:(f*2^k.frac+r:af)%2^k.frac=(r:ae):=by
  rw[<-iS,<-WU,OI,Nat.add_mul_mod_self_right,qY hr]
 have hdec:bf k (fH k n+f*2^k.frac+r)=if f=0/\r=0 then(0,if n=ao then 1 else 0) else(sg n*(if f=0 then(r:ae) else r+2^k.frac),if f=0 then k.least else k.least+f-1):=by
  unfold bf whole;rw[p1,p2,p3];by_cases c:f=0
  ·simp[c,nN,EO]
  ·have:¬(r+2^k.frac=0):=by omega
   simp only[c,wD,false_and,this];rw[WT,iS]
 have Q6:jv k (fH k n+f*2^k.frac+r)=ao↔¬aN k-k.least+1<f:=by
  unfold jv aN;rw[p1,bne_iff_ne];omega
 unfold nE;simp only[hdiv,nJ,hfld,hrem];by_cases c:aN k-k.least+1<f
 ·rw[aH c,ay λz=>Q6.mp z c]
 ·rw[ay c,aH<|Q6.mpr c,hdec]
  by_cases z:f=0/\r=0
  ·rw[aH z,aH (by rw[z.1,z.2];simp)]
  ·have z0:¬((f*2^k.frac+r:af):ae)=0:=by
    intro q;apply z;have q1:f*2^k.frac=0:=by omega
    rcases Nat.mul_eq_zero.mp q1 with d|d<;>constructor<;>omega
   rw[ay z,ay z0];by_cases fz:f=0
   ·subst fz
    cases n<;>simp[sg]
   ·have ZK:¬(f:ae)=0:=by omega
    simp[fz,ZK,wD]
    cases n<;>simp[sg]
def n8(k:aB)(x:ae×ae):ae:=if x.1=0 then x.2*2^(k.frac+k.expo)
 else
  let size:=(x.2-k.least)*2^k.frac+(x.1.natAbs)
  if x.1<0 then size+2^(k.frac+k.expo) else size
theorem parts(hx:x<2*k.sign):∃(n:c_)(f r:af),f<2^k.expo/\r<2^k.frac/\x=fH k n+f*2^k.frac+r:=by
 have hA:=eV k.frac;have hE:=eV k.expo;refine⟨dM k x,x%k.sign/2^k.frac,x%k.sign%2^k.frac,?_,qZ _ hA,?_⟩
 ·rw[Fh hA,lU,<-xo]
  exact qZ _ (by rw[xo];exact OO hA hE)
 ·have:=zT (x%k.sign)<|2^k.frac
  rw[OH,lU _ _,this];unfold fH dM;by_cases c:k.sign<=x
  ·rw[dD c,aH J,OK c,qY om]
   omega
  ·rw[gW c,ay dc,qY om]
   omega
theorem N3(hx:x<2*k.sign):n8 k (bf k x)=x:=by
 obtain⟨n,f,r,hf,hr,rfl⟩:=parts hx;obtain⟨p1,p2,p3,p4,p5⟩:=F9 k n hf hr;have es:2^(k.frac+k.expo)=(k.sign:ae):=by unfold Jz;rw[iS]
 unfold n8 bf whole;rw[p1,p2,p3,es];by_cases c:f=0
 ·subst c
  by_cases z:r=0
  ·subst z
   unfold fH
   cases n<;>simp
  ·simp only[nN,z,wD]
   have h1:¬(sg n*r=0):=by rcases oP n with⟨_,q⟩|⟨_,q⟩<;>rw[q]<;>omega
   have h2:(sg n*r).natAbs=r:=by rcases oP n with⟨_,q⟩|⟨_,q⟩<;>rw[q]<;>omega
   rw[ay h1,h2,Int.sub_self,Fb,vE,zU,zS];unfold fH
   cases n
   ·rw[ay (by show¬1*(r:ae)<0;omega),ay dc]
    omega
   ·rw[aH (by show-1*(r:ae)<0;omega),aH J]
    omega
 ·have:¬(r+2^k.frac=0):=by omega
  simp only[c,wD,this];have h1:¬(sg n*(r+2^k.frac:af)=0):=by rcases oP n with⟨_,q⟩|⟨_,q⟩<;>rw[q]<;>omega
  have h2:(sg n*(r+2^k.frac:af)).natAbs=r+2^k.frac:=by rcases oP n with⟨_,q⟩|⟨_,q⟩<;>rw[q]<;>omega
  rw[ay h1,h2];have h3:(k.least+f-1-k.least)*2^k.frac+(r+2^k.frac:af)=(f*2^k.frac+r:af):=by
   rw[show k.least+f-1-k.least=f-1 by omega,Int.sub_mul,zM,<-iS,<-qf];omega
  unfold fH
  cases n
  ·rw[ay (by show¬1*((r+2^k.frac:af):ae)<0;omega),ay dc]
   omega
  ·rw[aH (by show-1*((r+2^k.frac:af):ae)<0;omega),aH J]
   omega
theorem Y_(hx:x<2*k.sign)(hy:y<2*k.sign)(h:bf k x=bf k y):x=y:=by
 have:=N3 hx;rw[h,N3 hy] at this;omega
end
theorem Ud(h:bS k):cn k (0,0) 0:=by
 rcases h with rfl|rfl
 ·exact⟨⟨dc,dc⟩,SV.one (g:= -1074) (λ_=>J) dc dc (by unfold EqAt;decide+kernel),dc⟩
 ·exact⟨⟨dc,dc⟩,SV.one (g:= -149) (λ_=>J) dc dc (by unfold EqAt;decide+kernel),dc⟩
theorem HJ(h:bS k):cn k (1,-1)<|lr k:=by
 rcases h with rfl|rfl
 ·exact⟨⟨dk,dk⟩,SV.one (g:= -53) (λc=>nomatch c) dk dc (by unfold EqAt;decide+kernel),dc⟩
 ·exact⟨⟨dk,dk⟩,SV.one (g:= -53) (λc=>nomatch c) dk dc (by unfold EqAt;decide+kernel),dc⟩
theorem rep_one(h:bS k):cn k (1,0)<|one k:=by
 rcases h with rfl|rfl
 ·exact⟨⟨dk,dk⟩,SV.one (g:= -53) (λc=>nomatch c) dk dc (by unfold EqAt;decide+kernel),dc⟩
 ·exact⟨⟨dk,dk⟩,SV.one (g:= -53) (λc=>nomatch c) dk dc (by unfold EqAt;decide+kernel),dc⟩
theorem Uc(h:bS k):cn k (1,-2)<|oK k (-2):=by
 rcases h with rfl|rfl
 ·exact⟨⟨dk,dk⟩,SV.one (g:= -54) (λc=>nomatch c) dk dc (by unfold EqAt;decide+kernel),dc⟩
 ·exact⟨⟨dk,dk⟩,SV.one (g:= -54) (λc=>nomatch c) dk dc (by unfold EqAt;decide+kernel),dc⟩
theorem rep_four(h:bS k):cn k (1,2)<|oK k 2:=by
 rcases h with rfl|rfl
 ·exact⟨⟨dk,dk⟩,SV.one (g:= -54) (λc=>nomatch c) dk dc (by unfold EqAt;decide+kernel),dc⟩
 ·exact⟨⟨dk,dk⟩,SV.one (g:= -54) (λc=>nomatch c) dk dc (by unfold EqAt;decide+kernel),dc⟩
theorem rep_64(h:bS k):cn k (1,64)<|oK k 64:=by
 rcases h with rfl|rfl
 ·exact⟨⟨dk,dk⟩,SV.one (g:= -54) (λc=>nomatch c) dk dc (by unfold EqAt;decide+kernel),dc⟩
 ·exact⟨⟨dk,dk⟩,SV.one (g:= -54) (λc=>nomatch c) dk dc (by unfold EqAt;decide+kernel),dc⟩
end Bw
namespace Bw
open Rb49
section
variable{k:aB}
theorem Gg{x:af}(hq:k.least<=q)(hl:n<2^k.frac->q=k.least)(hn:n<2^(k.frac+1))(h:dj k neg n q=L x):whole k x=(n,q)/\dM k x=neg:=by
 unfold dj at h;by_cases h1:n<2^k.frac
 ·rw[aH h1] at h
  cases h
  obtain⟨w1,w2,_,_⟩:=EW k neg h1;rw[w1,w2,hl h1];exact⟨J,J⟩
 ·rw[ay h1] at h
  split at h
  ·cases h
  ·rename_i hc
   cases h
   have AL:n-2^k.frac<2^k.frac:=by rw[pf] at hn;omega
   obtain⟨w1,w2,w3,w4⟩:=Wi k neg (f:=(q-k.least+1).toNat) om om AL;rw[w1,w2];refine⟨?_,J⟩;rw[show n-2^k.frac+2^k.frac=n by omega,show k.least+((q-k.least+1).toNat)-1=q by omega]
def iF(k:aB)(x:af):ae:=(whole k x).2+((whole k x).1.log2)
theorem Uj{x:af}(h:fv k neg m e more=L x):dM k x=neg:=by
 by_cases h0:m=0
 ·subst h0
  cases h
  exact(EW k neg<|eV _).2.1
 obtain⟨n1,n2,n3⟩:=DN k e more h0;rw[uQ k neg e more h0] at h;have hA:=eV k.frac
 split at h
 ·exact(Gg om (λz=>absurd z om) om h).2
 ·exact(Gg n3 n2 om h).2
theorem LG{x:af}(h0:m≠0)(hb:k.least<=e+m.log2)(h:fv k neg m e more=L x):(whole k x).1≠0/\e+m.log2<=iF k x:=by
 obtain⟨n1,n2,n3⟩:=DN k e more h0;rw[uQ k neg e more h0] at h;have lu:dw k m e=k.least\/dw k m e=e+(mT m+1:af)-(k.frac+1:af):=by unfold dw;omega
 have dZ:2^(e+m.log2-dw k m e).toNat<=ie k m e more/\0<=e+m.log2-dw k m e:=by
  refine⟨?_,om⟩;unfold ie;generalize dw k m e=p at*;by_cases c:p<=e
  ·rw[aH c,show(e+m.log2-p).toNat=m.log2+(e-p).toNat by omega,jm]
   exact B8 _<|r8 h0
  ·rw[ay c]
   have:=U0 (d:=(p-e).toNat) (f:=(e+m.log2-p).toNat) h0 om;omega
 have gR:ie k m e more≠0:=by
  have:=eV (e+m.log2-dw k m e).toNat;omega
 have wA:=(qg gR).mpr dZ.1;unfold iF
 split at h
 ·rename_i c
  obtain⟨w,_⟩:=Gg om (λz=>absurd z om) om h;rw[w];rw[c,JL] at wA;rw[JL];omega
 ·obtain⟨w,_⟩:=Gg n3 n2 om h
  rw[w];refine⟨gR,?_⟩;show _<=dw k m e+((ie k m e more).log2);omega
theorem Uk(hk:bS k)(neg more:c_)(h:m=0\/e+(m.log2:ae)<=60):∃x,fv k neg m e more=L x:=by
 by_cases h0:m=0
 ·subst h0
  exact⟨_,J⟩
 obtain⟨n1,n2,n3⟩:=DN k e more h0;rw[uQ k neg e more h0];have ht:dw k m e+1<=aN k:=by
  have b:k.least+1<=aN k/\61-k.frac<=aN k:=by rcases hk with rfl|rfl<;>decide
  unfold dw;omega
 have dZ:∀n q,k.least<=q->q<=aN k-> ∃x,dj k neg n q=L x:=λn q h1 h2=>by
  unfold dj
  split
  ·exact⟨_,J⟩
  ·rw[ay λz=>absurd ((EN k h1).mp z) om]
   exact⟨_,J⟩
 split
 ·exact dZ _ _ om om
 ·exact dZ _ _ n3 om
theorem LB(h:a≠0):2*a.log2<=(a*a).log2:=by
 have h1:=r8 h;have h2:2^(a.log2+a.log2)<=a*a:=by rw[jm];exact q_ h1 h1
 have:=(qg<|rf h h).mpr h2;omega
theorem sq_mag{x a:af}(h:mul k x x=L a):dM k a=aK/\((whole k x).1≠0->k.least<=6->3<=iF k x->(whole k a).1≠0/\6<=iF k a):=by
 have s:=Uj h;refine⟨by rw[s];simp,λh0 hl hm=>?_⟩;have hs:=LB h0;unfold iF at hm;have:=LG (rf h0 h0) om h;exact⟨this.1,om⟩
theorem GU(h0:a≠0)(h:a<=b):a.log2<=b.log2:=(qg om).mpr<|dJ (r8 h0) h
theorem LA(n:af)(h0:a≠0):a.log2+n<=(a*2^n).log2:=by
 have h1:2^(a.log2+n)<=a*2^n:=by rw[jm];exact B8 _<|r8 h0
 exact(qg<|rf h0 (tq<|eV n)).mpr h1
theorem LF{x a b:af}(ha:dM k a=aK)(hl:k.least<=6)(h:ma k x x a=L b):dM k b=aK/\(((whole k a).1≠0/\6<=iF k a)\/((whole k x).1≠0/\3<=iF k x)->(whole k b).1≠0/\6<=iF k b):=by
 unfold ma fused at h;rw[ha,Ao,Ao,show(dM k x !=dM k x)=aK by simp] at h;unfold joined at h;simp only[BQ,wD,zM] at h;generalize hg:min _ (whole k a).2=g at h;generalize hP:(whole k x).1*(whole k x).1*2^((whole k x).2+(whole k x).2-g).toNat=P at h;generalize hQ:(whole k a).1*2^((whole k a).2-g).toNat=Q at h;have hz:(P+(Q:ae)=0)↔P+Q=0:=by omega
 by_cases c:P+Q=0
 ·rw[aH<|hz.mpr c] at h
  cases h
  have w:=EW k aK<|eV _;refine⟨w.2.1,λhh=>?_⟩;exfalso;have Gq:P=0:=by omega
  have Gr:Q=0:=by omega
  rcases hh with⟨h1,_⟩|⟨h1,_⟩
  ·rw[<-hQ] at Gr
   rcases Nat.mul_eq_zero.mp Gr with d|d
   ·exact h1 d
   ·have:=eV ((whole k a).2-g).toNat;omega
  ·rw[<-hP] at Gq
   rcases Nat.mul_eq_zero.mp Gq with d|d
   ·rcases Nat.mul_eq_zero.mp d with d|d<;>exact h1 d
   ·have:=eV ((whole k x).2+(whole k x).2-g).toNat;omega
 ·rw[ay λz=>c<|hz.mp z] at h
  refine⟨Uj h,λhh=>?_⟩;have Kd:6<=g+((P+Q).log2):=by
   rcases hh with⟨h1,h2⟩|⟨h1,h2⟩
   ·have l1:=LA ((whole k a).2-g).toNat h1
    rw[hQ] at l1;have Gr:Q≠0:=by rw[<-hQ];exact rf h1 (tq<|eV _)
    have l2:=GU (b:=P+Q) Gr om;unfold iF at h2;omega
   ·have l0:=LB h1
    have l1:=LA ((whole k x).2+(whole k x).2-g).toNat<|rf h1 h1;rw[hP] at l1;have Gq:P≠0:=by rw[<-hP];exact rf (rf h1 h1) (tq<|eV _)
    have l2:=GU (b:=P+Q) Gq om;unfold iF at h2;omega
  have:=LG c om h;exact⟨this.1,om⟩
theorem Wl{n:af}(hn:dM k n=aK):zI k n=((whole k n).1*2^((whole k n).2-k.least).toNat:af):=by
 unfold zI;rw[hn];simp
theorem Wm(hk:bS k):zI k (oK k 2)=(2^(2-k.least).toNat:af)/\zI k (oK k (-2))=(2^(-2-k.least).toNat:af):=by
 rcases hk with rfl|rfl<;>constructor<;>decide+kernel
theorem mag_le_of{n:af}(hk:bS k)(hn:dM k n=aK)(h0:(whole k n).1≠0)(h:below k (oK k 2) n=aK):iF k n<=2:=by
 unfold below at h;rw[(Wm hk).1,Wl hn] at h;have h:=uD h;have b:k.least<= -10:=by rcases hk with rfl|rfl<;>decide
 have l1:=LA ((whole k n).2-k.least).toNat h0;have l2:(whole k n).1*2^((whole k n).2-k.least).toNat<=2^(2-k.least).toNat:=by omega
 have l3:=GU (rf h0 (tq<|eV _)) l2;rw[JL] at l3;unfold iF;omega
theorem mag_ge_of{n:af}(hk:bS k)(hn:dM k n=aK)(h:below k n (oK k (-2))=aK):(whole k n).1≠0/\ -2<=iF k n:=by
 unfold below at h;rw[(Wm hk).2,Wl hn] at h;have h:=uD h;have hl:=Jc k n;have l2:2^(-2-k.least).toNat<=(whole k n).1*2^((whole k n).2-k.least).toNat:=by omega
 have h0:(whole k n).1≠0:=by
  intro z;rw[z,zU] at l2;have:=eV (-2-k.least).toNat;omega
 have l3:(whole k n).1*2^((whole k n).2-k.least).toNat<2^((whole k n).1.log2+1+((whole k n).2-k.least).toNat):=by
  rw[jm];exact B9 log2_lt<|eV _
 have l4:(-2-k.least).toNat<(whole k n).1.log2+1+((whole k n).2-k.least).toNat:=by
  apply(Nat.pow_lt_pow_iff_right (a:=2) om).mp;omega
 unfold iF;omega
theorem root_some(hk:bS k){n:af}(hn:dM k n=aK)(h0:(whole k n).1≠0)(h1:iF k n<=2)(h2: -2<=iF k n):∃r,root k n=L r/\(whole k r).1≠0/\ -1<=iF k r:=by
 have e1:root k n=if(whole k n).1=0 then L n else if dM k n=ao then ah else
  fv k aK _ _
   _:=J
 rw[e1,ay h0,ay (by rw[hn];decide)];have hj:(if(whole k n).2%2=0 then 120 else 121)%2=((whole k n).2%2).toNat/\120<=(if(whole k n).2%2=0 then 120 else 121)/\(if(whole k n).2%2=0 then 120 else 121)<=121:=by split<;>omega
 generalize(if(whole k n).2%2=0 then 120 else 121)=j at*;unfold iF at h1 h2;generalize(whole k n).1=A at*;generalize(whole k n).2=e at*;have fr:=wm<|A*2^j;generalize floorRoot _=r at*;have b:k.least<= -100:=by rcases hk with rfl|rfl<;>decide
 have hm:A*2^j≠0:=rf h0 (tq<|eV _);have wC:r≠0:=by
  rintro rfl
  have:=fr.2;omega
 have lo:(A.log2+j)/2<=r.log2:=by
  apply(qg wC).mpr;apply qV;intro c;have c1:(r+1)*(r+1)<=2^((A.log2+j)/2)*2^((A.log2+j)/2):=q_ om om;rw[<-jm] at c1;have c2:2^((A.log2+j)/2+(A.log2+j)/2)<=2^(A.log2+j):=jY om om;have c3:2^(A.log2+j)<=A*2^j:=by rw[jm];exact B8 _<|r8 h0
  have:=fr.2;omega
 have hi:2*r.log2<=A.log2+j:=by
  have c1:=LB wC;have c2:=GU (rf wC wC) fr.1;have c3:A*2^j<2^(A.log2+1+j):=by rw[jm];exact B9 log2_lt<|eV _
  have c4:=(vI hm).mpr c3;omega
 obtain⟨x,hx⟩:=Uk hk aK (r*r !=A*2^j) (m:=r) (e:=(e-j)/2)<|.inr om;rw[hx];have:=LG wC om hx;exact⟨x,J,this.1,om⟩
theorem F4(hk:bS k){c r:af}(h0:(whole k r).1≠0)(h1: -1<=iF k r)(h2:(whole k c).1=0\/iF k c<=2):∃x,div k c r=L x:=by
 have e1:div k c r=if(whole k r).1=0 then ah else fv k _ _ _ _:=J
 rw[e1,ay h0];apply Uk hk;unfold iF at h1 h2;generalize(whole k c).1=A at*;generalize(whole k r).1=B at*;by_cases hA:A=0
 ·left
  rw[hA,zU,Xv]
 ·by_cases hq:A*2^120/B=0
  ·exact .inl hq
  have c1:A*2^120/B<2^(A.log2+1+120-B.log2):=by
   rw[Fh om];have l1:A*2^120<2^(A.log2+1+120):=by rw[jm];exact B9 log2_lt<|eV _
   have l2:2^(A.log2+1+120)<=2^(A.log2+1+120-B.log2)*2^B.log2:=by
    rw[<-jm];exact jY om om
   have l3:2^_*2^B.log2<=2^(A.log2+1+120-B.log2)*B:=Xs _<|r8 h0;omega
  have c2:=(vI hq).mpr c1;rcases h2 with z|z<;>omega
theorem unit_some(hk:bS k){n:af}(hn:norm k q=L n)(h1:below k (oK k 2) n=aK)(h2:below k n (oK k (-2))=aK)(h3:below k (oK k 64) n=aK):∃u,unit k q=L u:=by
 have hl:k.least<=6:=by rcases hk with rfl|rfl<;>decide
 have mf:=hn;unfold norm at mf
 cases ea:mul k q.w q.w with
 |none=>rw[ea] at mf;cases mf
 |some a=>
  rw[ea] at mf
  cases eb:ma k q.x q.x a with
  |none=>simp only[Option.bind_some,eb] at mf;cases mf
  |some b=>
   simp[Option.bind_some,eb] at mf
   cases ec:ma k q.y q.y b with
   |none=>simp only[ec] at mf;cases mf
   |some c=>
    simp[ec] at mf;have ed:=mf;obtain⟨a1,a2⟩:=sq_mag ea;obtain⟨b1,b2⟩:=LF a1 hl eb;obtain⟨c1,c2⟩:=LF b1 hl ec;obtain⟨d1,d2⟩:=LF c1 hl ed;obtain⟨n0,n1⟩:=mag_ge_of hk d1 h2;have n2:=mag_le_of hk d1 n0 h1;have j_:∀v,((whole k v).1≠0->3<=iF k v->(whole k n).1≠0/\6<=iF k n)->(whole k v).1=0\/iF k v<=2:=λv h=>by
     by_cases z:(whole k v).1=0
     ·exact .inl z
     ·right
      apply qV;omega
    have lw:=j_ q.w λz y=>d2 (.inl<|c2 (.inl<|b2 (.inl<|a2 z hl y)));have lx:=j_ q.x λz y=>d2<|.inl (c2<|.inl (b2<|.inr ⟨z,y⟩));have ly:=j_ q.y λz y=>d2<|.inl (c2<|.inr ⟨z,y⟩);have lz:=j_ q.z λz y=>d2<|.inr ⟨z,y⟩;obtain⟨r,er,r0,r1⟩:=root_some hk d1 n0 n2 n1;obtain⟨w,ew⟩:=F4 hk r0 r1 lw;obtain⟨x,ex⟩:=F4 hk r0 r1 lx;obtain⟨y,ey⟩:=F4 hk r0 r1 ly;obtain⟨z,ez⟩:=F4 hk r0 r1 lz;refine⟨⟨w,x,y,z⟩,?_⟩;unfold unit;rw[hn];simp[Option.bind_some,h2,h3,BQ,KA,wD,er,ew,ex,ey,ez,vK]
end
end Bw
namespace Bw
open Rb49
def ba{α β:Type}(f:α->aw β):ag α->aw (ag β)
 |[]=>L []
 |a::l=>(f a).bind λb=>(ba f l).map λbs=>b::bs
def dW{α β:Type}(f:β->α->aw β):β->ag α->aw β
 |s,[]=>L s
 |s,a::l=>(f s a).bind λs'=>dW f s' l
theorem wJ(f:α->aw β):∀l,l.mapM f=ba f l
 |[]=>by simp[ba]
 |a::l=>by
  rw[List.mapM_cons,wJ f l];show _=(f a).bind λb=>(ba f l).map λbs=>b::bs
  cases f a with
  |none=>rfl
  |some b=>cases ba f l<;>rfl
theorem KJ(f:β->α->aw β):∀l s,l.foldlM f s=dW f s l
 |[],s=>by simp[dW]
 |a::l,s=>by
  rw[List.foldlM_cons];unfold dW
  cases f s a with
  |none=>rfl
  |some b=>exact KJ f l b
section
variable{α β γ:Type}
theorem Bu(h:f a=ah):∀{l:ag α},a∈l->ba f l=ah
 |b::l,hm=>by
  unfold ba;rcases List.mem_cons.mp hm with rfl|hm
  ·rw[h];rfl
  ·rw[Bu h hm]
   cases f b<;>rfl
theorem Im:∀{l:ag α},(∀a∈l,f a=g a)->ba f l=ba g l
 |[],_=>rfl
 |a::l,h=>by
  unfold ba;rw[h a ik,Im λb hb=>h b<|gz _ hb]
theorem iI:∀{l:ag α}{bs:ag β},ba f l=L bs->bs.length=l.length
 |[],bs,h=>by cases h;rfl
 |a::l,bs,h=>by
  unfold ba at h
  cases e1:f a with
  |none=>rw[e1] at h;cases h
  |some b=>
   rw[e1] at h
   cases e2:ba f l with
   |none=>rw[e2] at h;cases h
   |some cs=>
    rw[e2] at h
    cases h
    show cs.length+1=_;rw[iI e2];rfl
theorem UT:∀l m,ba f (l++m)=(ba f l).bind λx=>(ba f m).map λy=>x++y
 |[],m=>by cases e:ba f m<;>simp[ba,e]
 |a::l,m=>by
  show(f a).bind (λb=>(ba f<|l++m).map λbs=>b::bs)=_;rw[UT l m];show _=((f a).bind λb=>(ba f l).map λbs=>b::bs).bind _
  cases f a<;>cases ba f l<;>cases ba f m<;>rfl
theorem UU(g:α->β):∀l,ba f (l.map g)=ba (λa=>f<|g a) l
 |[]=>rfl
 |a::l=>by
  show(f _).bind _=_;rw[UU g l];rfl
theorem lN:∀l,ba (λa=>L<|f a) l=L (l.map f)
 |[]=>rfl
 |a::l=>by
  unfold ba;rw[lN l];rfl
theorem Na(f:α->aw β)(g:α->β->aw γ):∀l,ba (λa=>(f a).bind<|g a) l=(ba f l).bind λbs=>ba (λp=>g p.1 p.2)<|l.zip bs
 |[]=>rfl
 |a::l=>by
  show((f a).bind _).bind _=((f a).bind λb=>(ba f l).map λbs=>b::bs).bind _;rw[Na f g l]
  cases f a with
  |none=>rfl
  |some b=>
   cases ba f l with
   |none=>
    show(g a b).bind _=ah
    cases g a b<;>rfl
   |some bs=>rfl
theorem QG(g:α->aw β)(t:γ->β->aw γ):∀l s,dW (λs a=>(g a).bind<|t s) s l=(ba g l).bind λbs=>dW t s bs
 |[],s=>rfl
 |a::l,s=>by
  show((g a).bind<|t s).bind _=((g a).bind λb=>(ba g l).map λbs=>b::bs).bind _
  cases g a with
  |none=>rfl
  |some b=>
   show(t s b).bind _=_
   cases e:t s b with
   |none=>
    cases ba g l with
    |none=>rfl
    |some bs=>
     show _=dW t s _;unfold dW;rw[e];rfl
   |some s'=>
    show dW _ s' l=_;rw[QG g t l s']
    cases ba g l with
    |none=>rfl
    |some bs=>
     show _=dW t s _
     conv=>rhs;unfold dW
     rw[e];rfl
def gI(d:α)(cM:af)(t:α->β->aw α)(s:ag α×af)(x:β):aw<|ag α×af:=(t (s.1.getD (s.2%cM) d) x).map λy=>(s.1.set (s.2%cM) y,s.2+1)
theorem RG(d:α)(hL:0<cM)(t:α->β->aw α):∀l ls n,ls.length=cM->ba (λj=>dW (λa x=>t a x.1) (ls.getD j d) ((l.zipIdx n).filter λx=>x.2%cM==j)) (il cM)=(dW (gI d cM t) (ls,n) l).map λs=>s.1
 |[],ls,n,h=>by
  show ba (λj=>L<|ls.getD j d) _=L ls;rw[lN]
  congr 1
  refine W3 (by simp[h]) λi h1 h2=>?_;simp[h2]
 |x::l,ls,n,h=>by
  have hj:n%cM<cM:=qZ _ hL;show _=((gI d cM t _ x).bind λs=>dW _ s l).map _;rw[List.zipIdx_cons]
  cases e:t (ls.getD _ d) x with
  |none=>
   have e1:gI d cM t (ls,n) x=ah:=by
    unfold gI;rw[e];rfl
   rw[e1];refine Bu ?_<|List.mem_range.mpr hj;rw[W5<|by simp];unfold dW;rw[e];rfl
  |some y=>
   have e1:gI d cM t (ls,n) x=L (ls.set (n%cM) y,n+1):=by
    unfold gI;rw[e];rfl
   rw[e1];show _=(dW _ (ls.set _ y,n+1) l).map _;rw[<-RG d hL t l (ls.set _ y) _ (by rw[o9];exact h)];refine Im λj hj'=>?_;by_cases c:n%cM=j
   ·subst c
    rw[W5<|by simp];show(t (ls.getD _ d) x).bind _=_;rw[e];simp[mM,h,hj]
   ·rw[List.filter_cons_of_neg<|by simpa using c]
    simp[mM,zP c]
theorem RE(d:α)(cM:af)(t:α->β->aw α):∀l s s',dW (gI d cM t) s l=L s'->s'.1.length=s.1.length
 |[],s,s',h=>by cases h;rfl
 |x::l,s,s',h=>by
  unfold dW at h
  cases e:gI d cM t s x with
  |none=>rw[e] at h;cases h
  |some u=>
   rw[e] at h;rw[RE d cM t l u s' h];unfold gI at e
   cases e2:t (s.1.getD (s.2%cM) d) x with
   |none=>rw[e2] at e;cases e
   |some y=>
    rw[e2] at e
    cases e
    simp
def j'(d:α)(cM:af)(t:α->β->aw α)(l:ag β):aw<|ag α:=(dW (gI d cM t) (zR cM d,0) l).map λs=>s.1
theorem IP(k:aB)(hL:0<k.lanes)(d:α)(t:α->β->aw α)(f:α->α->aw α)(l:ag β):BE k d t f l=(j' d k.lanes t l).bind λs=>(jK f (mT k.lanes) s).map λr=>r.headD d:=by
 unfold BE j';rw[wJ];have e:=RG d hL t l (zR k.lanes d) 0<|by simp
 rw[<-e]
 congr 1
 refine Im λj hj=>?_;have hj:=List.mem_range.mp hj;rw[KJ];simp[hj]
theorem lanesP_split(d:α)(cM:af)(g:γ->aw β)(t:α->β->aw α)(l:ag γ):j' d cM (λa x=>(g x).bind<|t a) l=(ba g l).bind λbs=>j' d cM t bs:=by
 unfold j';have e:gI d cM (λa x=>(g x).bind<|t a)=λs x=>(g x).bind<|gI d cM t s:=by
  funext s x
  show((g x).bind (t<|s.1.getD (s.2%cM) d)).map _=_
  cases g x<;>rfl
 rw[e,QG g _ l]
 cases ba g l<;>rfl
theorem EL(k:aB)(hL:0<k.lanes)(d:α)(g:γ->aw β)(t:α->β->aw α)(f:α->α->aw α)(l:ag γ):BE k d (λa x=>(g x).bind<|t a) f l=(ba g l).bind λbs=>BE k d t f bs:=by
 rw[IP k hL,lanesP_split]
 cases ba g l with
 |none=>rfl
 |some bs=>exact(IP k hL d t f bs).symm
theorem Ax(d:α)(f:α->α->aw α)(n:af)(h:l.length=2^(n+1)):jK f (n+1) l=(ba (λj=>f (l.getD j d)<|l.getD (j+2^n) d) (il<|2^n)).bind (jK f n):=by
 have e:(l.take<|2^n).zip (l.drop<|2^n)=(il<|2^n).map λj=>(l.getD j d,l.getD (j+2^n) d):=by
  refine W3 (by simp;omega) λi h1 h2=>?_;have h2:=by simpa using h2
  simp[mM];constructor
  ·rw[xI om];rfl
  ·rw[xI om,Option.getD_some]
   congr 1
   omega
 show zW _ _=_;rw[wJ,e,UU]
end
end Bw
namespace Bw
open Rb49
def iZ:ag af->ag af->ag af->ag P
 |x::xs,y::ys,z::zs=>⟨x,y,z⟩::iZ xs ys zs
 |_,_,_=>[]
theorem N':∀l,iZ (l.map (·.x)) (l.map (·.y)) (l.map (·.z))=l
 |[]=>rfl
 |p::l=>by
  show⟨p.x,p.y,p.z⟩::iZ _ _ _=_;rw[N' l]
theorem QN(ls:ag P)(j:af):(ls.map (·.x)).getD j 0=(ls.getD j default).x:=by
 simp[mM,mO]
 cases ls[j]? <;>rfl
theorem QO(ls:ag P)(j:af):(ls.map (·.y)).getD j 0=(ls.getD j default).y:=by
 simp[mM,mO]
 cases ls[j]? <;>rfl
theorem QP(ls:ag P)(j:af):(ls.map (·.z)).getD j 0=(ls.getD j default).z:=by
 simp[mM,mO]
 cases ls[j]? <;>rfl
def vm{α β γ δ:Type}(f:α->β->γ->δ)(x:aw α)(y:aw β)(z:aw γ):aw δ:=x.bind λa=>y.bind λb=>z.map λc=>f a b c
theorem IY{f:α->β->γ->δ}:vm f x ah z=ah:=by cases x<;>rfl
theorem IZ{f:α->β->γ->δ}:vm f x y ah=ah:=by cases x<;>cases y<;>rfl
theorem RD(k:aB)(cM:af):∀l ls n,(dW (gI default cM<|iR k) (ls,n) l).map (λs=>s.1)=vm iZ ((dW (gI 0 cM<|add k) (ls.map (·.x),n) (l.map (·.x))).map λs=>s.1)
                                  ((dW (gI 0 cM<|add k) (ls.map (·.y),n) (l.map (·.y))).map λs=>s.1) ((dW (gI 0 cM<|add k) (ls.map (·.z),n) (l.map (·.z))).map λs=>s.1)
 |[],ls,n=>by
  show L ls=L (iZ _ _ _);rw[N']
 |p::l,ls,n=>by
  show((gI default cM _ _ p).bind _).map _=vm iZ (((gI 0 cM _ (ls.map (·.x),n) p.x).bind _).map _) (((gI 0 cM _ (ls.map (·.y),n) p.y).bind _).map _) (((gI 0 cM _ (ls.map (·.z),n) p.z).bind _).map _);unfold gI;simp only[QN,QO,QP];show(((made _ _ _).map _).bind _).map _=_
  cases hx:add k (ls.getD _ default).x p.x with
  |none=>rfl
  |some a=>
   cases hy:add k (ls.getD _ default).y p.y with
   |none=>exact IY.symm
   |some b=>
    cases hz:add k (ls.getD _ default).z p.z with
    |none=>exact IZ.symm
    |some c=>
     have ih:=RD k cM l (ls.set (n%cM) ⟨a,b,c⟩)<|n+1;simp[List.map_set] at ih;exact ih
theorem lanesP3(k:aB)(cM:af)(l:ag P):j' default cM (iR k) l=vm iZ (j' 0 cM (add k) (l.map (·.x))) (j' 0 cM (add k) (l.map (·.y))) (j' 0 cM (add k) (l.map (·.z))):=by
 have:=RD k cM l (zR cM default) 0;simp[List.map_replicate] at this;exact this
theorem N_:∀{X Y Z:ag af},X.length=Y.length->Y.length=Z.length->(iZ X Y Z).map (·.x)=X/\(iZ X Y Z).map (·.y)=Y/\(iZ X Y Z).map (·.z)=Z/\(iZ X Y Z).length=X.length
 |[],[],[],_,_=>⟨J,J,J,J⟩
 |x::X,y::Y,z::Z,h1,h2=>by
  obtain⟨a,b,c,d⟩:=N_ (by simpa using h1)<|by simpa using h2
  refine⟨?_,?_,?_,?_⟩
  ·show x::(iZ X Y Z).map _=_;rw[a]
  ·show y::(iZ X Y Z).map _=_;rw[b]
  ·show z::(iZ X Y Z).map _=_;rw[c]
  ·show(iZ X Y Z).length+1=_;rw[d];rfl
 |[],_::_,_,h,_=>by simp at h
 |_::_,[],_,h,_=>by simp at h
 |_::_,_::_,[],_,h=>by simp at h
 |[],[],_::_,_,h=>by simp at h
theorem UQ(f g h:α->aw af):∀l,ba (λa=>made (f a) (g a)<|h a) l=vm iZ (ba f l) (ba g l) (ba h l)
 |[]=>rfl
 |a::l=>by
  show(made _ _<|h a).bind _=vm iZ ((f a).bind _) ((g a).bind _) ((h a).bind _);rw[UQ f g h l]
  cases hx:f a with
  |none=>rfl
  |some x=>
   cases hy:g a with
   |none=>exact IY.symm
   |some y=>
    cases hz:h a with
    |none=>exact IZ.symm
    |some z=>
     cases ba f l with
     |none=>rfl
     |some X=>
      cases ba g l with
      |none=>rfl
      |some Y=>cases ba h l<;>rfl
theorem Gj(f:α->α->aw α):∀n{l r:ag α},l.length=2^n->jK f n l=L r->r.length=1
 |0,l,r,h,e=>by cases e;exact h
 |n+1,l,r,h,e=>by
  cases l with
  |nil=>exact absurd h (by have:=Ca<|n+1;simp;omega)
  |cons d l=>
   rw[Ax d f n h] at e
   cases e1:ba (λj=>f _ _) _ with
   |none=>rw[e1] at e;cases e
   |some m=>
    rw[e1] at e;exact Gj f n (by rw[iI e1];simp) e
theorem QH(k:aB):∀n{l:ag P},l.length=2^n->jK (iR k) n l=vm iZ (jK (add k) n (l.map (·.x))) (jK (add k) n (l.map (·.y))) (jK (add k) n (l.map (·.z)))
 |0,l,h=>by
  show L l=L (iZ _ _ _);rw[N']
 |n+1,l,h=>by
  rw[Ax default _ n h,Ax 0 _ n<|by simpa using h,Ax 0 _ n<|by simpa using h,Ax 0 _ n<|by simpa using h];simp only[QN,QO,QP];have e:=UQ (λj=>add k (l.getD j default).x (l.getD (j+2^n) default).x) (λj=>add k (l.getD j default).y (l.getD (j+2^n) default).y) (λj=>add k (l.getD j default).z (l.getD (j+2^n) default).z) (il<|2^n);show(ba (λj=>made _ _ _) _).bind _=_;rw[e]
  cases ex:ba (λj=>add k (l.getD j default).x (l.getD _ default).x) _ with
  |none=>rfl
  |some X=>
   cases ey:ba (λj=>add k (l.getD j default).y (l.getD _ default).y) _ with
   |none=>exact IY.symm
   |some Y=>
    cases ez:ba (λj=>add k (l.getD j default).z (l.getD _ default).z) _ with
    |none=>exact IZ.symm
    |some Z=>
     have lx:X.length=2^n:=by rw[iI ex];simp
     have ly:Y.length=2^n:=by rw[iI ey];simp
     have lz:Z.length=2^n:=by rw[iI ez];simp
     obtain⟨z1,z2,z3,z4⟩:=N_ (X:=X) (Y:=Y) (Z:=Z) om om;show jK _ n (iZ X Y Z)=vm iZ (jK _ n X) (jK _ n Y) (jK _ n Z);rw[QH k n om,z1,z2,z3]
theorem wH(h:bS k):k.lanes=2^mT k.lanes/\0<k.lanes/\k.lanes<=16:=by rcases h with rfl|rfl<;>decide
def dC(k:aB)(t:af->β->aw af)(l:ag β):aw af:=(j' 0 k.lanes t l).bind λs=>(jK (add k) (mT k.lanes) s).map λr=>r.headD 0
theorem NV(h:bS k)(t:af->β->aw af)(l:ag β):BE k 0 t (add k) l=dC k t l:=IP k (wH h).2.1 0 t _ l
theorem Lw{t:α->β->aw α}(h:j' d cM t l=L s):s.length=cM:=by
 unfold j' at h
 cases e:dW _ _ l with
 |none=>rw[e] at h;cases h
 |some u=>
  rw[e] at h
  cases h
  rw[RE d cM t l _ _ e];simp
theorem VO(h:bS k)(l:ag P):BE k default (iR k) (iR k) l=made (dC k (add k) (l.map (·.x))) (dC k (add k) (l.map (·.y))) (dC k (add k) (l.map (·.z))):=by
 obtain⟨hp,h0,_⟩:=wH h;rw[IP k h0,lanesP3];unfold dC
 cases ex:j' 0 k.lanes _ (l.map (·.x)) with
 |none=>rfl
 |some X=>
  cases ey:j' 0 k.lanes _ (l.map (·.y)) with
  |none=>exact(IY).symm
  |some Y=>
   cases ez:j' 0 k.lanes _ (l.map (·.z)) with
   |none=>exact(IZ).symm
   |some Z=>
    have lx:=Lw ex;have ly:=Lw ey;have lz:=Lw ez;obtain⟨z1,z2,z3,z4⟩:=N_ (X:=X) (Y:=Y) (Z:=Z) om om;show(jK _ _<|iZ X Y Z).map _=made ((jK _ _ X).map _) ((jK _ _ Y).map _) ((jK _ _ Z).map _);rw[QH k _ om,z1,z2,z3]
    cases fx:jK _ _ X with
    |none=>rfl
    |some A=>
     cases fy:jK _ _ Y with
     |none=>rfl
     |some B=>
      cases fz:jK _ _ Z with
      |none=>rfl
      |some C=>
       have a1:=Gj _ _ om fx;have a2:=Gj _ _ om fy;have a3:=Gj _ _ om fz
       match A,B,C,a1,a2,a3 with
       |[a],[b],[c],_,_,_=>rfl
end Bw
namespace Bw
open Rb49
section
variable(k:aB)
structure qX where
 at_:P
 turn:Q
 v:P
 o:P
def ic(b:ff):aw qX:=(pk k b).bind λv=>(pw k b).map λo=>⟨b.at_,b.turn,v,o⟩
structure rh where
 CA:P
 at_:P
 v:P
def f_(m:qX)(r:P):aw rh:=(turned k m.turn r).bind λa=>(iR k m.at_ a).bind λp=>(cross k m.o a).bind λc=>(iR k m.v c).map λu=>⟨a,p,u⟩
theorem HD(b:ff)(r:P):pointOf k b r=(ic k b).bind λm=>(f_ k m r).map λp=>(p.CA,p.at_,p.v):=by
 unfold pointOf ic f_
 cases pk k b with
 |none=>cases turned k b.turn r with
  |none=>rfl
  |some a=>show(iR k b.at_ a).bind _=ah;cases iR k b.at_ a<;>rfl
 |some v=>
  cases pw k b with
  |none=>cases turned k b.turn r with
   |none=>rfl
   |some a=>show(iR k b.at_ a).bind _=ah;cases iR k b.at_ a<;>rfl
  |some o=>
   show _=((turned k b.turn r).bind _).map _
   cases turned k b.turn r with
   |none=>rfl
   |some a=>
    show(iR k b.at_ a).bind _=((iR k b.at_ a).bind _).map _
    cases iR k b.at_ a with
    |none=>rfl
    |some p=>
     show(cross k o a).bind _=((cross k o a).bind _).map _
     cases cross k o a with
     |none=>rfl
     |some c=>show(iR k v c).map _=((iR k v c).map _).map _;cases iR k v c<;>rfl
structure iu where
 a:rh
 b:rh
 I_:P
 bG:af
def qd(s:j0)(m1 m2:qX):aw iu:=(f_ k m1 s.from_).bind λa=>(f_ k m2 s.to).bind λb=>(wK k b.at_ a.at_).bind λd=>((dot k d d).bind<|root k).map λl=>⟨a,b,d,l⟩
def jR(w:World)(s:j0):aw iu:=(ic k<|w.body s.one).bind λm1=>(ic k<|w.body s.other).bind λm2=>qd k s m1 m2
def kg(s:j0)(p:iu):aw af:=sub k p.bG s.rest
def lK(s:j0)(p:iu):aw<|aw Push:=if isZero k p.bG=ao then L ah else
 (parted k p.I_ p.bG).bind λe=>((wK k p.b.v p.a.v).bind λv=>dot k e v).bind λu=>(mul k s.damp u).bind λc=>((kg k s p).bind λx=>nms k s.stiff x c).bind λf=>(times k f e).map λq=>L ⟨p.a.CA,p.b.CA,q⟩
theorem longer_eq(w:World)(s:j0):longer k w s=(jR k w s).bind (kg k s):=by
 unfold longer jR;rw[HD,HD]
 cases ic k _ with
 |none=>rfl
 |some m1=>
  cases ic k _ with
  |none=>show((f_ k m1 s.from_).map _).bind _=ah;cases f_ k m1 s.from_<;>rfl
  |some m2=>
   show((f_ k m1 s.from_).map _).bind _=((f_ k m1 s.from_).bind _).bind _
   cases f_ k m1 s.from_ with
   |none=>rfl
   |some a=>
    show((f_ k m2 s.to).map _).bind _=((f_ k m2 s.to).bind _).bind _
    cases f_ k m2 s.to with
    |none=>rfl
    |some b=>
     show(wK k b.at_ a.at_).bind _=((wK k b.at_ a.at_).bind _).bind _
     cases wK k b.at_ a.at_ with
     |none=>rfl
     |some d=>
      show(dot k d d).bind _=(((dot k d d).bind _).map _).bind _
      cases dot k d d with
      |none=>rfl
      |some n=>show(root k n).bind _=((root k n).map _).bind _;cases root k n<;>rfl
theorem pushOf_eq(w:World)(s:j0):pushOf k w s=(jR k w s).bind (lK k s):=by
 unfold pushOf jR;rw[HD,HD]
 cases ic k _ with
 |none=>rfl
 |some m1=>
  cases ic k _ with
  |none=>show((f_ k m1 s.from_).map _).bind _=ah;cases f_ k m1 s.from_<;>rfl
  |some m2=>
   show((f_ k m1 s.from_).map _).bind _=((f_ k m1 s.from_).bind _).bind _
   cases f_ k m1 s.from_ with
   |none=>rfl
   |some a=>
    show((f_ k m2 s.to).map _).bind _=((f_ k m2 s.to).bind _).bind _
    cases f_ k m2 s.to with
    |none=>rfl
    |some b=>
     show(wK k b.at_ a.at_).bind _=((wK k b.at_ a.at_).bind _).bind _
     cases wK k b.at_ a.at_ with
     |none=>rfl
     |some d=>
      show(dot k d d).bind _=(((dot k d d).bind _).map _).bind _
      cases dot k d d with
      |none=>rfl
      |some n=>
       show(root k n).bind _=((root k n).map _).bind _
       cases root k n with
       |none=>rfl
       |some l=>
        show(if isZero k l=ao then L ah else _)=lK k s ⟨a,b,d,l⟩;unfold lK strength kg
        split
        ·rfl
        ·show(parted k d l).bind _=(parted k d l).bind _
         cases parted k d l with
         |none=>rfl
         |some e=>
          cases wK k b.v a.v with
          |none=>rfl
          |some v=>
           show(dot k e v).bind _=(dot k e v).bind _
           cases dot k e v with
           |none=>rfl
           |some u=>
            show(sub k l s.rest).bind _=(mul k s.damp u).bind _
            cases sub k l s.rest with
            |none=>cases mul k s.damp u<;>rfl
            |some x=>cases mul k s.damp u<;>rfl
def lF(dt:F)(b:ff):aw ff:=(along k dt b.force b.momentum).bind λm=>((pk k {b with momentum:=m}).bind λv=>along k dt v b.at_).bind λp=>
 ((mul k dt<|lr k).bind λh=>(pw k b).bind λo=>times k h o).bind λg=>((turns k ⟨one k,g.x,g.y,g.z⟩ b.turn).bind<|unit k).map λq=>{b with momentum:=m,at_:=p,turn:=q}
theorem move_eq(e:mul k dt (lr k)=L h)(b:ff):((forced k dt b).bind λc=>moved k dt h c)=lF k dt b:=by
 unfold forced moved lF;rw[e]
 cases along k dt b.force b.momentum with
 |none=>rfl
 |some m=>
  show(pk k {b with momentum:=m}).bind _=((pk k {b with momentum:=m}).bind _).bind _
  cases pk k {b with momentum:=m} with
  |none=>rfl
  |some v=>
   show(along k dt v b.at_).bind _=(along k dt v b.at_).bind _
   cases along k dt v b.at_ with
   |none=>rfl
   |some p=>
    show(pw k b).bind _=((pw k b).bind _).bind _
    cases pw k b with
    |none=>rfl
    |some o=>
     show(times k h o).bind _=(times k h o).bind _
     cases times k h o with
     |none=>rfl
     |some a=>
      show(turns k ⟨one k,a.x,a.y,a.z⟩ b.turn).bind _=((turns k ⟨one k,a.x,a.y,a.z⟩ b.turn).bind _).map _
      cases turns k ⟨one k,a.x,a.y,a.z⟩ b.turn with
      |none=>rfl
      |some t=>cases unit k t<;>rfl
def jS(dt:F)(w:World):aw<|ag ff:=((ba (jR k w) w.springs).bind λsp=>ba (λx=>lK k x.1 x.2)<|w.springs.zip sp).bind λps=>
 (dW (λbs x=>done k dt bs x.1 x.2) w.bodies<|w.springs.zip ps).bind λbs=>ba (λb=>(lF k dt b).map<|kept k w.walls) bs
theorem step_eq(e:mul k dt (lr k)=L h)(w:World):step1 k dt w=(jS k dt w).map λl=>{w with bodies:=l}:=by
 unfold step1 jS;rw[e];have e1:=funext (pushOf_eq k w);rw[wJ,e1,Na _ _]
 cases(ba _ w.springs).bind λbs=>ba (λp:j0×iu=>lK k p.1 p.2) _ with
 |none=>rfl
 |some ps=>
  show zW (List.foldlM _ _ _) _=(zW (dW _ _ _) _).map _;rw[KJ]
  cases dW (λbs x=>done k dt bs x.1 x.2) w.bodies (w.springs.zip ps) with
  |none=>rfl
  |some bs=>
   show JS _ _=JS _ _;rw[wJ]
   congr 1
   refine Im λb _=>?_;rw[<-move_eq k e b]
   cases forced k dt b<;>rfl
def e_(a:af)(p:af×af):aw af:=ma k p.1 p.2 a
def wg(b:ff):aw<|af×af:=((dot k b.momentum b.momentum).bind λn=>mul k b.inverse n).map λt=>(lr k,t)
def wc(b:ff):aw<|af×af:=((pw k b).bind λo=>dot k b.spin o).map λt=>(lr k,t)
def k_(s:j0)(p:iu):aw<|af×af:=(kg k s p).bind λx=>(mul k (lr k) s.stiff).bind λc=>(mul k x x).map λt=>(c,t)
def iN(b:ff):aw P:=(moment k b.at_ b.momentum).bind λm=>iR k m b.spin
end
section
variable{k:aB}(hk:bS k)
include hk
theorem momenta_eq(w:World):LJ k w=made (dC k (add k) (w.bodies.map λb=>b.momentum.x)) (dC k (add k) (w.bodies.map λb=>b.momentum.y)) (dC k (add k) (w.bodies.map λb=>b.momentum.z)):=by
 have e:=EL k (wH hk).2.1 default (λb=>L b.momentum) (iR k) (iR k) w.bodies;refine Eq.trans e ?_;rw[lN];show BE k default _ _ (w.bodies.map λb=>b.momentum)=_;rw[VO hk];simp[OA];rfl
theorem spins_eq(w:World):spins k w=(ba (iN k) w.bodies).bind λl=>made (dC k (add k) (l.map (·.x))) (dC k (add k) (l.map (·.y))) (dC k (add k) (l.map (·.z))):=by
 unfold spins;have e0:(λa b=>(moment k b.at_ b.momentum).bind λm=>(iR k m b.spin).bind λt=>iR k a t)=λa b=>(iN k b).bind<|iR k a:=by
  funext a b
  unfold iN
  cases moment k b.at_ b.momentum<;>rfl
 rw[e0,EL k (wH hk).2.1]
 cases ba _ w.bodies with
 |none=>rfl
 |some l=>exact VO hk l
theorem ways_eq(w:World):ways k w=(ba (wg k) w.bodies).bind (dC k<|e_ k):=by
 unfold ways;have e0:(λa b=>(dot k b.momentum b.momentum).bind λn=>(mul k b.inverse n).bind λt=>ma k (lr k) t a)=λa b=>(wg k b).bind<|e_ k a:=by
  funext a b
  unfold wg e_
  cases dot k b.momentum b.momentum with
  |none=>rfl
  |some n=>show(mul k b.inverse n).bind _=((mul k b.inverse n).map _).bind _;cases mul k b.inverse n<;>rfl
 rw[e0,EL k (wH hk).2.1]
 cases ba _ w.bodies with
 |none=>rfl
 |some l=>exact NV hk _ l
theorem whirls_eq(w:World):Jb k w=(ba (wc k) w.bodies).bind (dC k<|e_ k):=by
 unfold Jb;have e0:(λa b=>(pw k b).bind λo=>(dot k b.spin o).bind λt=>ma k (lr k) t a)=λa b=>(wc k b).bind<|e_ k a:=by
  funext a b
  unfold wc e_
  cases pw k b with
  |none=>rfl
  |some o=>show(dot k b.spin o).bind _=((dot k b.spin o).map _).bind _;cases dot k b.spin o<;>rfl
 rw[e0,EL k (wH hk).2.1]
 cases ba _ w.bodies with
 |none=>rfl
 |some l=>exact NV hk _ l
theorem tensions_eq(w:World):IW k w=((ba (jR k w) w.springs).bind λsp=>ba (λx:j0×iu=>k_ k x.1 x.2)<|w.springs.zip sp).bind (dC k<|e_ k):=by
 unfold IW;have e0:(λa(s:j0)=>(longer k w s).bind λx=>(mul k x x).bind λt=>(mul k (lr k) s.stiff).bind λc=>ma k c t a)=λa s=>((jR k w s).bind<|k_ k s).bind<|e_ k a:=by
  funext a s
  rw[longer_eq];unfold k_ e_
  cases jR k w s with
  |none=>rfl
  |some p=>
   show(kg k s p).bind _=((kg k s p).bind _).bind _
   cases kg k s p with
   |none=>rfl
   |some x=>
    show(mul k x x).bind _=((mul k (lr k) s.stiff).bind _).bind _
    cases mul k (lr k) s.stiff with
    |none=>cases mul k x x<;>rfl
    |some c=>show _=((mul k x x).map _).bind _;cases mul k x x<;>rfl
 rw[e0,EL k (wH hk).2.1,Na (jR k w)<|k_ k]
 cases(ba (jR k w) w.springs).bind λbs=>ba (λp:j0×iu=>k_ k p.1 p.2) (w.springs.zip bs) with
 |none=>rfl
 |some l=>exact NV hk _ l
omit hk in
theorem sums_eq(w:World):sums k w=(ways k w).bind λa=>(Jb k w).bind λb=>(IW k w).bind λc=>((add k a b).bind λd=>add k d c).bind λe=>(LJ k w).bind λm=>(spins k w).map λl=>m.list++(l.list++[a,b,c,e]):=by
 unfold sums
 cases ways k w<;>cases Jb k w<;>cases IW k w<;>cases LJ k w<;>cases spins k w<;>simp
 rename_i a b c m l
 cases add k a b with
 |none=>rfl
 |some d=>show(add k d c).map _=(add k d c).bind _;cases add k d c<;>rfl
end
end Bw
namespace Bw
open Rb49
variable{k:aB}
theorem Z9(hk:bS k)(hx:cQ k x):∃h,mul k x (lr k)=L h:=by
 unfold mul;have hh:whole k (lr k)=(2^k.frac,-1-(k.frac:ae)):=by rcases hk with rfl|rfl<;>decide
 rw[hh];have e:=ME k (dM k x !=dM k (lr k)) (whole k x).1 ((whole k x).2-1) k.frac;rw[show(whole k x).2+_=(whole k x).2-1-k.frac by omega,e];by_cases h0:(whole k x).1=0
 ·rw[h0]
  exact⟨_,aH J⟩
 have h1:=N6 k x;have h3:=Wj hx.2 hk.expo;obtain⟨n1,n2,n3⟩:=DN k ((whole k x).2-1) aK h0;have hl:=(vI h0).mpr h1;have ht:k.least+1<=aN k:=by rcases hk with rfl|rfl<;>decide
 have dZ:∀n q,k.least<=q->q<=aN k-> ∃z,dj k (dM k x !=dM k (lr k)) n q=L z:=λn q h1 h2=>by
  unfold dj
  split
  ·exact⟨_,J⟩
  ·rw[ay λz=>absurd ((EN k h1).mp z) om]
   exact⟨_,J⟩
 have hp:dw k (whole k x).1 ((whole k x).2-1)+1<=aN k:=by
  unfold dw;omega
 rw[uQ k _ _ aK h0]
 split
 ·exact dZ _ _ om hp
 ·exact dZ _ _ n3 om
def yI(j:aB):af:=(2^j.expo-1)*2^j.frac
theorem Qh{a:af}(h:(whole k a).1≠0):decide ((bf k a).1<0)=dM k a:=by
 rw[F0];rcases oP _ with⟨e,q⟩|⟨e,q⟩<;>rw[q,e]
 ·exact dD om
 ·exact gW om
theorem other_zero{a:af}(h:(whole k a).1=0):other k j a=fH j (dM k a):=by
 unfold other;rw[h];rfl
theorem other_some(hj:bS j){a:af}(h:(whole k a).1≠0)(e:eZ j (bf k a).1 (bf k a).2=L p):p=bf j (other k j a)/\cQ j (other k j a):=by
 have h0:(bf k a).1≠0:=by
  have:=rK k a;omega
 obtain⟨r1,r2⟩:=Ej j (bf k a).2 hj.expo hj.frac h0;rw[Qh h,rK,yo h0] at r1 r2;rw[yo h0,r1] at e;unfold other
 cases er:fv j _ (whole k a).1 (whole k a).2 aK with
 |none=>rw[er] at e;cases e
 |some x=>
  rw[er] at e
  cases e
  exact⟨J,r2 x er⟩
theorem other_none(hj:bS j){a:af}(h:(whole k a).1≠0)(e:eZ j (bf k a).1 (bf k a).2=ah):other k j a=fH j (dM k a)+yI j:=by
 have h0:(bf k a).1≠0:=by
  have:=rK k a;omega
 obtain⟨r1,r2⟩:=Ej j (bf k a).2 hj.expo hj.frac h0;rw[Qh h,rK,yo h0] at r1;rw[yo h0,r1] at e;unfold other yI
 cases er:fv j _ (whole k a).1 (whole k a).2 aK with
 |none=>rfl
 |some x=>rw[er] at e;cases e
theorem numbers_inj(h:numbers b=numbers c):b=c:=by
 obtain⟨i,⟨m1,m2,m3⟩,⟨a1,a2,a3⟩,⟨t1,t2,t3,t4⟩,⟨p1,p2,p3⟩,⟨s1,s2,s3⟩,f1,f2,f3⟩:=b;simp only[numbers,oj,Q.list,zN,List.nil_append,vG] at h;obtain⟨e1,e2,e3,e4,e5,e6,e7,e8,e9,e10,e11,e12,e13,e14,e15,e16,e17,e18,e19,e20,_⟩:=h;subst e1 e2 e3 e4 e5 e6 e7 e8 e9 e10 e11 e12 e13 e14 e15 e16 e17 e18 e19 e20;rfl
theorem R5:∀{l m:ag ff},l.map numbers=m.map numbers->l=m
 |[],[],_=>rfl
 |[],_::_,h=>by cases h
 |_::_,[],h=>by cases h
 |b::l,c::m,h=>by
  simp[kr,vG] at h;rw[numbers_inj h.1,R5 h.2]
def jl(k:aB)(dt:F)(w:World):af->ag ff->aw (ag ff)
 |0,bs=>L bs
 |n+1,bs=>(jS k dt {w with bodies:=bs}).bind<|jl k dt w n
theorem VE(e:mul k dt (lr k)=L h):∀n w,steps k dt n w=(jl k dt w n w.bodies).map λl=>{w with bodies:=l}
 |0,w=>rfl
 |n+1,w=>by
  show(step1 k dt w).bind _=((jS k dt w).bind _).map _;rw[step_eq k e w]
  cases jS k dt w with
  |none=>rfl
  |some l=>
   show steps k dt n {w with bodies:=l}=(jl k dt w n l).map _;rw[VE e n];have:=λn l=>by
    have AA:∀n m,jl k dt {w with bodies:=l} n m=jl k dt w n m:=λn=>by
     induction n with
     |zero=>intro m;rfl
     |succ n ih=>
      intro m;show(jS k dt {w with bodies:=m}).bind _=(jS k dt {w with bodies:=m}).bind _
      congr 1
      funext x
      exact ih x
    exact AA n l
   rw[this]
theorem VF(e:jS k dt {w with bodies:=bs}=L bs):∀n,jl k dt w n bs=L bs
 |0=>rfl
 |n+1=>by
  show(jS k dt {w with bodies:=bs}).bind _=_;rw[e];exact VF e n
end Bw
namespace Bw
open Rb49
theorem YX(h:xO sh f (p::r)=L raw):∃g c t cs,raw=c::cs/\xN sh (p::r)=L (c,t)/\xO sh g t=L cs:=by
 cases f with
 |zero=>cases h
 |succ f=>
  unfold xO at h
  cases e:xN sh _ with
  |none=>rw[e] at h;cases h
  |some x=>
   obtain⟨c,t⟩:=x;rw[e] at h;simp only at h
   cases e2:xO sh f t with
   |none=>rw[e2] at h;cases h
   |some cs=>
    rw[e2] at h
    cases h
    exact⟨f,c,t,cs,J,J,e2⟩
theorem YY(h:xO sh f []=L raw):raw=[]:=by
 cases f<;>cases h<;>rfl
theorem YU(hs:sh p=L (n,0))(h:xN sh (p::r)=L (c,t)):n<=r.length/\c=[p::r.take n]/\t=r.drop n:=by
 unfold xN at h;simp only[hs,XC] at h
 split at h
 ·cases h
 ·cases h
  exact⟨om,J,J⟩
theorem YW(hs:sh p=L (n,1))(h:xN sh (p::r)=L (c,t)):∃l,r=r.take n++((l.length:ae)::(l++t))/\c=[p::r.take n,l]/\n<=r.length:=by
 unfold xN at h;simp only[hs,XC] at h
 split at h
 ·cases h
 ·rename_i hn
  cases e:r.drop n with
  |nil=>rw[e] at h;cases h
  |cons m q=>
   rw[e] at h;simp only[PyFlat.row] at h;by_cases hm:0<=m/\m.toNat<=q.length
   ·rw[aH hm] at h
    cases h
    refine⟨q.take m.toNat,?_,J,om⟩;rw[OG m.toNat q,km];have:(min m.toNat q.length:af)=m:=by omega
    rw[this,<-e,OG]
   ·rw[ay hm] at h
    cases h
def gT(o:ae):Prop:=0<=o/\o<=3
def gN(z:ae):Prop:= -2147483648<=z/\z<=2147483647
def gd(o:ae)(z:ae):Prop:=0<=z/\z.toNat<2*(Af o).sign
inductive mJ:ae->ag ae->ag (ag ae)->ag ae->Prop
 |begin_ o t:gT o->mJ 0 (o::t) [[0,o]] t
 |body o (l t):gT o->(∀z∈l,gd o z)->l.length=20->mJ 1 (o::20::(l++t)) [[1,o],l] t
 |spring (o i j) (l t):gT o->gN i->gN j->(∀z∈l,gd o z)->l.length=9->mJ 2 (o::i::j::9::(l++t)) [[2,o,i,j],l] t
 |walls o (l t):gT o->(∀z∈l,gd o z)->l.length=6->mJ 3 (o::6::(l++t)) [[3,o],l] t
 |step (o n d) t:gT o->gN n->gd o d->mJ 4 (o::n::d::t) [[4,o,n,d]] t
 |get (o a n b) t:gT o->gN a->gN n->gN b->mJ 5 (o::a::n::b::t) [[5,o,a,n,b]] t
 |put (o a b) (l t):gT o->gN a->gN b->(∀z∈l,gd o z)->l.length<=4096->mJ 6 (o::a::b::l.length::(l++t)) [[6,o,a,b],l] t
 |sums o t:gT o->mJ 7 (o::t) [[7,o]] t
 |box o t:gT o->mJ 8 (o::t) [[8,o]] t
 |slow (o d m) t:gT o->gd o d->gN m->mJ 9 (o::d::m::t) [[9,o,d,m]] t
 |points (o a n) (l t):gT o->gN a->gN n->(∀z∈l,gd o z)->l.length=3->mJ 10 (o::a::n::3::(l++t)) [[10,o,a,n],l] t
 |frame (o a n) t:gT o->gN a->gN n->mJ 11 (o::a::n::t) [[11,o,a,n]] t
theorem pO(h:rE o=ao):gT o:=by
 unfold rE Rb49Neutral.upTo at h;simpa [gT] using h
theorem oV(h:lY z=ao):gN z:=by
 unfold lY at h;simp at h;unfold gN;omega
theorem LP(h:J4 z (Ah o)=ao):gd o z:=by
 unfold J4 at h;simp at h;refine⟨h.1,?_⟩;have e:2*(Af o).sign=2^Ah o:=by
  unfold Af Ah
  split<;>decide
 have:((2^Ah o:af):ae)=2^Ah o:=by simp
 omega
theorem CI(h:Ad o l=ao):∀z∈l,gd o z:=by
 unfold Ad at h;rw[Ou] at h;exactλz hz=>LP<|h z hz
set_option maxHeartbeats 1000000 in
theorem YT{p:ae}(h:xN xP (p::r)=L (c,t))(a:Pt (vL c)=ao):mJ p r c t:=by
 have yt:∀{n:af},xP p=L (n,0)->n<=r.length/\c=[p::r.take n]/\t=r.drop n:=λhs=>YU hs h;have El:∀{n:af},xP p=L (n,1)-> ∃l,r=r.take n++((l.length:ae)::(l++t))/\c=[p::r.take n,l]/\n<=r.length:=λhs=>YW hs h;have Y0:p=0\/p=1\/p=2\/p=3\/p=4\/p=5\/p=6\/p=7\/p=8\/p=9\/p=10\/p=11:=by
  by_cases hp:p=0\/p=1\/p=2\/p=3\/p=4\/p=5\/p=6\/p=7\/p=8\/p=9\/p=10\/p=11
  ·exact hp
  ·have e:xP p=ah:=by
    unfold xP;rw[ay om,ay om,ay om,ay om,ay om,ay om,ay om,ay om,ay om,ay om,ay om,ay om]
   unfold xN at h;simp only[e] at h
   cases h
 rcases Y0 with rfl|rfl|rfl|rfl|rfl|rfl|rfl|rfl|rfl|rfl|rfl|rfl
 ·obtain⟨hn,rfl,rfl⟩:=yt (n:=1) J
  match r,hn with
  |o::r,_=>exact .begin_ o r<|pO a
 ·obtain⟨l,hr,rfl,hn⟩:=El (n:=1) J
  match r,hn,hr with
  |o::r,_,hr=>
   simp only[List.take_succ_cons,mP,zN,List.nil_append,vG,EO] at hr;replace a:(rE o&&(Ad o l&&decide (l.length=20)))=ao:=a;simp only[eR,j7] at a;have e:=a.2.2;subst hr;rw[show((l.length:af):ae)=20 by omega];exact .body o l t (pO a.1) (CI a.2.1) e
 ·obtain⟨l,hr,rfl,hn⟩:=El (n:=3) J
  match r,hn,hr with
  |o::i::j::r,_,hr=>
   simp only[List.take_succ_cons,mP,zN,List.nil_append,vG,EO] at hr;replace a:(rE o&&(lY i&&(lY j&&(Ad o l&&decide (l.length=9)))))=ao:=a;simp only[eR,j7] at a;have e:=a.2.2.2.2;subst hr;rw[show((l.length:af):ae)=9 by omega];exact .spring o i j l t (pO a.1) (oV a.2.1) (oV a.2.2.1) (CI a.2.2.2.1) e
 ·obtain⟨l,hr,rfl,hn⟩:=El (n:=1) J
  match r,hn,hr with
  |o::r,_,hr=>
   simp only[List.take_succ_cons,mP,zN,List.nil_append,vG,EO] at hr;replace a:(rE o&&(Ad o l&&decide (l.length=6)))=ao:=a;simp only[eR,j7] at a;have e:=a.2.2;subst hr;rw[show((l.length:af):ae)=6 by omega];exact .walls o l t (pO a.1) (CI a.2.1) e
 ·obtain⟨hn,rfl,rfl⟩:=yt (n:=3) J
  match r,hn with
  |o::n::d::r,_=>
   replace a:(rE o&&(lY n&&J4 d (Ah o)))=ao:=a;simp only[eR,j7] at a;exact .step o n d r (pO a.1) (oV a.2.1)<|LP a.2.2
 ·obtain⟨hn,rfl,rfl⟩:=yt (n:=4) J
  match r,hn with
  |o::f::n::b::r,_=>
   replace a:(rE o&&(lY f&&(lY n&&lY b)))=ao:=a;simp only[eR,j7] at a;exact .get o f n b r (pO a.1) (oV a.2.1) (oV a.2.2.1)<|oV a.2.2.2
 ·obtain⟨l,hr,rfl,hn⟩:=El (n:=3) J
  match r,hn,hr with
  |o::f::b::r,_,hr=>
   simp only[List.take_succ_cons,mP,zN,List.nil_append,vG,EO] at hr;replace a:(rE o&&(lY f&&(lY (l.length:ae)&&(lY b&&(Ad o l&&XY l (l.length:ae) 0 4096)))))=ao:=a;simp only[eR,j7] at a;obtain⟨a1,a2,a3,a4,a5,a6⟩:=a;subst hr;refine .put o f b l t (pO a1) (oV a2) (oV a4) (CI a5) ?_;unfold XY at a6;have a6:=dE a6
   split at a6<;>omega
 ·obtain⟨hn,rfl,rfl⟩:=yt (n:=1) J
  match r,hn with
  |o::r,_=>exact .sums o r<|pO a
 ·obtain⟨hn,rfl,rfl⟩:=yt (n:=1) J
  match r,hn with
  |o::r,_=>exact .box o r<|pO a
 ·obtain⟨hn,rfl,rfl⟩:=yt (n:=3) J
  match r,hn with
  |o::d::m::r,_=>
   replace a:(rE o&&(J4 d (Ah o)&&lY m))=ao:=a;simp only[eR,j7] at a;exact .slow o d m r (pO a.1) (LP a.2.1)<|oV a.2.2
 ·obtain⟨l,hr,rfl,hn⟩:=El (n:=3) J
  match r,hn,hr with
  |o::f::n::r,_,hr=>
   simp only[List.take_succ_cons,mP,zN,List.nil_append,vG,EO] at hr;replace a:(rE o&&(lY f&&(lY n&&(Ad o l&&decide (l.length=3)))))=ao:=a;simp only[eR,j7] at a;have e:=a.2.2.2.2;subst hr;rw[show((l.length:af):ae)=3 by omega];exact .points o f n l t (pO a.1) (oV a.2.1) (oV a.2.2.1) (CI a.2.2.2.1) e
 ·obtain⟨hn,rfl,rfl⟩:=yt (n:=3) J
  match r,hn with
  |o::f::n::r,_=>
   replace a:(rE o&&(lY f&&lY n))=ao:=a;simp only[eR,j7] at a;exact .frame o f n r (pO a.1) (oV a.2.1)<|oV a.2.2
theorem Yp(h:JW l=ao):∃raw,xO xP l.length l=L raw/\raw.length<=300/\(∀c∈raw,Pt (vL c)=ao)/\Ae [] (raw.map vL)=ao/\Fu l=OY (OX yd Rb49Neutral.start<|raw.map vL):=by
 unfold JW at h
 cases e:xO xP l.length l with
 |none=>rw[e] at h;cases h
 |some raw=>
  rw[e] at h;simp[eR,Rb49Neutral.asked,PyFlat.atMost,j7,List.all_map,Ou] at h;refine⟨raw,J,h.1.1.2,λc hc=>h.2.2.2.1 c hc,h.2.2.2.2,?_⟩;unfold Fu PyRb49.calls;rw[e]
end Bw
namespace Bw
open Rb49
section
variable{α β:Type}
theorem KH(f:β->α->aw β):∀l m s,dW f s (l++m)=(dW f s l).bind λs'=>dW f s' m
 |[],m,s=>rfl
 |a::l,m,s=>by
  show(f s a).bind _=((f s a).bind _).bind _
  cases f s a with
  |none=>rfl
  |some s'=>exact KH f l m s'
theorem take_snoc{l:ag α}(h:l[j]? =L x):l.take (j+1)=l.take j++[x]:=by rw[Xe,h];rfl
theorem Ql{l:ag α}(h:l[j]? =L x):l.drop j=x::l.drop (j+1):=by
 have hj:j<l.length:=by
  rcases Fj j l.length with z|z
  ·exact z
  ·rw[BZ z] at h;cases h
 rw[List.drop_eq_getElem_cons hj];rw[xI hj] at h
 cases h
 rfl
theorem KI{l:ag α}{s s':β}(h:l[j]? =L x)(e:dW f s (l.take j)=L s'):dW f s (l.take<|j+1)=f s' x:=by
 rw[take_snoc h,KH,e];show(f s' x).bind _=_
 cases f s' x<;>rfl
theorem QF{x:α}{s s':β}(h:l[j]? =L x)(e:dW f s (l.take j)=L s')(n:f s' x=ah):dW f s l=ah:=by
 have:l=l.take j++(x::l.drop (j+1)):=by rw[<-Ql h,OG]
 rw[this,KH,e];show(f s' x).bind _=ah;rw[n];rfl
theorem Io{l:ag α}{j:af}{x:α}(h:l[j]? =L x)(n:f x=ah):ba f l=ah:=Bu n<|jW h
end
theorem Qj(h:done k dt bs s p=L gB):gB.length=bs.length:=by
 unfold done at h
 cases p with
 |none=>cases h;rfl
 |some p=>
  simp only at h
  cases e1:pushedBack k dt p.from_ p.push (bs.getD s.one default) with
  |none=>rw[e1] at h;cases h
  |some a=>
   rw[e1] at h
   cases e2:pushed k dt p.to p.push (bs.getD s.other default) with
   |none=>rw[e2] at h;cases h
   |some b=>rw[e2] at h;cases h;simp
end Bw
namespace Bw
open Rb49
variable{k:aB}
def n9(k:aB)(q:Q):c_:=match norm k q with
 |none=>aK
 |some n=>!below k n (oK k (-2))&& !below k (oK k 2) n
theorem usable_unit(hk:bS k)(h:n9 k q=ao):∃u,unit k q=L u:=by
 unfold n9 at h
 cases e:norm k q with
 |none=>rw[e] at h;cases h
 |some n=>
  rw[e] at h;simp[eR,Od] at h;refine unit_some hk e h.2 h.1 ?_;have h2:=h.2;have w:zI k (oK k 2)<=zI k (oK k 64):=by rcases hk with rfl|rfl<;>decide+kernel
  have:=uD h2;exact gW om
theorem YQ{l:ag af}(h:l.all (jv k)=aK):Aq k l=ah:=by
 unfold Aq
 split
 ·rw[ay λz=>by rw[z.1] at h;cases h]
 ·rfl
theorem YR{a0 a1 a2 a3 a4 a5 a6 a7 a8 a9 i_ mY mZ m6 m7 m8 m9 m_ nk px:af}(h:[a0,a1,a2,a3,a4,a5,a6,a7,a8,a9,i_,mY,mZ,m6,m7,m8,m9,m_,nk,px].all (jv k)=ao):Aq k [a0,a1,a2,a3,a4,a5,a6,a7,a8,a9,i_,mY,mZ,m6,m7,m8,m9,m_,nk,px]=if([a0,a1,a2,a3].any (λv=>below k v 0)|| !n9 k ⟨a7,a8,a9,i_⟩)=ao then ah else(unit k ⟨a7,a8,a9,i_⟩).map λq=>⟨a0,⟨a1,a2,a3⟩,⟨a4,a5,a6⟩,q,⟨mY,mZ,m6⟩,⟨m7,m8,m9⟩,m_,nk,px⟩:=by
 unfold Aq;simp only;have ea:[a0,a1,a2,a3].all (λv=>!below k v 0)= ![a0,a1,a2,a3].any λv=>below k v 0:=by simp
 rw[ea]
 cases eb:[a0,a1,a2,a3].any (λv=>below k v 0) with
 |true=>rw[ay (λz=>nomatch z.2),WA,aH J]
 |false=>
  rw[aH ⟨h,J⟩];unfold n9 unit
  cases en:norm k ⟨a7,a8,a9,i_⟩ with
  |none=>rfl
  |some n=>
   simp only[Option.bind_some,sU]
   cases e4:below k _ n with
   |true=>rw[aH J,aH<|by simp]
   |false=>
    rw[ay dc]
    cases e1:below k n _ with
    |true=>rw[aH<|.inl J,aH dc];rfl
    |false=>rw[ay (c:=_=ao) dc]
theorem spring_bad{l:ag af}(h:l.all (jv k)=aK):EJ k i j l=ah:=by
 unfold EJ
 split
 ·rw[ay λz=>by rw[z.1] at h;cases h]
 ·rfl
theorem spring_eq{i j a b c d e f s t r:af}(h:[a,b,c,d,e,f,s,t,r].all (jv k)=ao):EJ k i j [a,b,c,d,e,f,s,t,r]=if [s,t,r].any (λv=>below k v 0)=ao then ah else L ⟨i,j,⟨a,b,c⟩,⟨d,e,f⟩,s,t,r⟩:=by
 unfold EJ;simp only;have ea:[s,t,r].all (λv=>!below k v 0)= ![s,t,r].any λv=>below k v 0:=by simp
 rw[ea]
 cases [s,t,r].any (λv=>below k v 0) with
 |true=>rw[ay (λz=>nomatch z.2),aH J]
 |false=>rw[aH ⟨h,J⟩];rfl
theorem walls_bad{l:ag af}(h:l.all (jv k)=aK):EV k l=ah:=by
 unfold EV
 split
 ·rw[ay λz=>by rw[z.1] at h;cases h]
 ·rfl
theorem walls_eq{a b c d e f:af}(h:[a,b,c,d,e,f].all (jv k)=ao):EV k [a,b,c,d,e,f]=if(il 3).any (λj=>below k ([a,b,c,d,e,f].getD (j+3) 0)<|[a,b,c,d,e,f].getD j 0)=ao then ah else L (⟨a,b,c⟩,⟨d,e,f⟩):=by
 unfold EV;simp only;have er:(il 3).any (λj=>below k ([a,b,c,d,e,f].getD (j+3) 0)<|[a,b,c,d,e,f].getD j 0)=(below k d a||(below k e b||below k f c)):=by
  show(below k d a||(below k e b||(below k f c||aK)))=_;rw[Wy]
 rw[er]
 cases below k d a<;>cases below k e b<;>cases below k f c<;>simp[h]
def fE(w:World)(first n:ae):c_:=decide (0<=first)&&(decide (0<=n)&&decide (first+n<=w.bodies.length))
theorem sL(w:World)(first n:ae):these w first n=if fE w first n=ao then L ((w.bodies.drop first.toNat).take n.toNat) else ah:=by
 unfold these fE;by_cases h:first<0\/n<0\/w.bodies.length<first+n
 ·rw[aH h,ay]
  simp[eR,j7];omega
 ·rw[ay h,aH]
  simp[eR,j7];omega
def qG(bs:ag ff)(first qR:af)(l:ag F)(j:af):ag ff:=bs.zipIdx.map λx=>if first<=x.2/\x.2<first+j then Wk x.1 qR (l.getD (x.2-first) 0) else x.1
theorem TY:(qG bs first qR l j).length=bs.length:=by simp[qG]
theorem HG:(qG bs first qR l j)[i]? =(bs[i]?).map λb=>if first<=i/\i<first+j then Wk b qR (l.getD (i-first) 0) else b:=by
 unfold qG;rw[mO,List.getElem?_zipIdx]
 cases bs[i]? <;>simp
theorem putJ_zero:qG bs first qR l 0=bs:=by
 refine W4 λi=>?_;rw[HG]
 cases bs[i]? with
 |none=>rfl
 |some b=>simp only[vK];rw[ay om]
theorem putJ_at:(qG bs first qR l j)[first+j]? =bs[first+j]? :=by
 rw[HG]
 cases bs[first+j]? with
 |none=>rfl
 |some b=>simp only[vK];rw[ay om]
theorem putJ_succ(hb:bs[first+j]? =L b)(hx:l[j]? =L x):qG bs first qR l (j+1)=(qG bs first qR l j).set (first+j) (Wk b qR x):=by
 refine W4 λi=>?_;rw[List.getElem?_set,HG];by_cases e:first+j=i
 ·subst e
  have hl:=(List.getElem?_eq_some_iff.mp hb).1;rw[aH J,aH (by rw[TY];exact hl),hb];simp only[vK];rw[aH om,Xj,BY,hx];rfl
 ·rw[ay e,HG]
  cases bs[i]? with
  |none=>rfl
  |some c=>
   simp[vK];by_cases q:first<=i/\i<first+j
   ·rw[aH q,aH om]
   ·rw[ay q,ay om]
theorem IK(hl:∀bs gB,jS k dt {w with bodies:=bs}=L gB->gB.length=bs.length):∀n bs gB,jl k dt w n bs=L gB->gB.length=bs.length
 |0,bs,gB,h=>by cases h;rfl
 |n+1,bs,gB,h=>by
  have h:(jS k dt {w with bodies:=bs}).bind _=L gB:=h
  cases e:jS k dt {w with bodies:=bs} with
  |none=>rw[e] at h;cases h
  |some m=>
   rw[e] at h;rw[IK hl n m gB h,hl _ _ e]
theorem Tq(hb:w.bodies.length<=4096)(c:Call):(cH k (L w) c).2.out.length<=28672:=by
 have ht:∀{first n:ae}{l:ag ff},these w first n=L l->l.length<=4096:=λ{first n l}h=>by
  rw[sL] at h
  split at h
  ·cases h
   rw[km,B1];omega
  ·cases h
 cases c with
 |begin_=>exact eI _
 |body l=>simp[cH];split<;>(try split)<;>exact eI _
 |spring i j l=>simp[cH];repeat (first|split|exact eI _)
 |walls l=>simp[cH];split<;>exact eI _
 |step n dt=>simp[cH];repeat (first|split|exact eI _)
 |get first n qR=>
  simp[cH]
  split
  ·exact eI _
  ·rename_i l h
   split
   ·exact eI _
   ·have:=ht h
    rw[hJ];omega
 |put first n qR l=>simp[cH];repeat (first|split|exact eI _)
 |sums=>
  simp[cH]
  split
  ·exact eI _
  ·rename_i l h
   have:l.length=10:=by
    unfold sums at h
    cases e1:LJ k w with
    |none=>rw[e1] at h;cases h
    |some m=>
    cases e2:spins k w with
    |none=>rw[e1,e2] at h;cases h
    |some s=>
    cases e3:ways k w with
    |none=>rw[e1,e2,e3] at h;cases h
    |some a=>
    cases e4:Jb k w with
    |none=>rw[e1,e2,e3,e4] at h;cases h
    |some b=>
    cases e5:IW k w with
    |none=>rw[e1,e2,e3,e4,e5] at h;cases h
    |some c=>
    rw[e1,e2,e3,e4,e5] at h;simp[Option.bind_some] at h
    cases e6:add k a b with
    |none=>rw[e6] at h;cases h
    |some d=>
    rw[e6] at h;simp only[Option.bind_some] at h
    cases e7:add k d c with
    |none=>rw[e7] at h;cases h
    |some e=>rw[e7] at h;cases h;rfl
   show l.length<=_;omega
 |box=>
  simp[cH]
  split
  ·exact eI _
  ·show 6<=28672
   decide
 |slow DE most=>
  simp[cH]
  split
  ·exact eI _
  ·rename_i hm
   split
   ·exact eI _
   ·split
    ·exact eI _
    ·show(List.take _ _).length<=_
     rw[km];omega
 |points first n r=>
  simp[cH]
  split
  ·rename_i l x y z h
   split
   ·exact eI _
   ·split
    ·exact eI _
    ·rename_i ps hp
     rw[wJ] at hp;have l1:=iI hp;have l2:=ht h;have:∀ps:ag P,(ps.flatMap oj).length=3*ps.length:=λps=>by
      induction ps with
      |nil=>rfl
      |cons p ps ih=>rw[JC,iL,ih];show 3+_=3*(ps.length+1);omega
     rw[this];omega
  ·exact eI _
 |frame first n=>
  simp only[cH]
  split
  ·exact eI _
  ·rename_i l h
   have l2:=ht h;have:∀bs:ag ff,(bs.flatMap λb=>(b.at_.list++b.turn.list).map (other k<|otherKind k)).length=7*bs.length:=λbs=>by
    induction bs with
    |nil=>rfl
    |cons p bs ih=>rw[JC,iL,ih];show 7+_=7*(bs.length+1);omega
   rw[this];omega
end Bw
namespace Bw
open Rb49
abbrev NS:=ae->Rb49.St
def gK(s:NS)(o:ae)(q:Call):NS×ag ae:=((λj=>if j=o then(cH (Af o) (s o) q).1 else s j),(cH (Af o) (s o) q).2.value::Rb49Neutral.ints (cH (Af o) (s o) q).2.out)
inductive fA:ae->ag ae->ag ae->ae->Call->Prop
 |begin_ o t:gT o->fA 0 (o::t) t o .begin_
 |body o (l t):gT o->(∀z∈l,gd o z)->l.length=20->fA 1 (o::20::(l++t)) t o (.body<|Ag l)
 |spring (o i j) (l t):gT o->gN i->gN j->(∀z∈l,gd o z)->l.length=9->fA 2 (o::i::j::9::(l++t)) t o (.spring i j<|Ag l)
 |walls o (l t):gT o->(∀z∈l,gd o z)->l.length=6->fA 3 (o::6::(l++t)) t o (.walls<|Ag l)
 |step (o n d) t:gT o->gN n->gd o d->fA 4 (o::n::d::t) t o (.step n d.toNat)
 |get (o a n b) t:gT o->gN a->gN n->gN b->fA 5 (o::a::n::b::t) t o (.get a n b)
 |put (o a b) (l t):gT o->gN a->gN b->(∀z∈l,gd o z)->l.length<=4096->fA 6 (o::a::b::l.length::(l++t)) t o (.put a l.length b<|Ag l)
 |sums o t:gT o->fA 7 (o::t) t o .sums
 |box o t:gT o->fA 8 (o::t) t o .box
 |slow (o d m) t:gT o->gd o d->gN m->fA 9 (o::d::m::t) t o (.slow d.toNat m)
 |points (o a n) (l t):gT o->gN a->gN n->(∀z∈l,gd o z)->l.length=3->fA 10 (o::a::n::3::(l++t)) t o (.points a n<|Ag l)
 |frame (o a n) t:gT o->gN a->gN n->fA 11 (o::a::n::t) t o (.frame a n)
theorem pL{s:NS}{c:ag (ag ae)}(h:Rb49Neutral.callOf c=L (o,q)):yd s c=gK s o q:=by
 unfold yd gK;rw[h]
theorem iC{r:ag (ag<|ag ae)}(h:Ae b (((p::o::x)::y)::r)=ao):(p=0\/o∈b)/\Ae (o::b) r=ao:=by
 have h:(_&&Ae _ r)=ao:=h;rw[eR,E4] at h;refine⟨h.1.imp (λz=>eq_of_beq z) λz=>?_,h.2⟩;simpa using z
theorem A7(l:ag ae):(Ag l).length=l.length:=by simp[Ag]
theorem YZ(h:mJ p r c t){cs:ag (ag<|ag ae)}(g:Ae b (vL c::cs)=ao):∃o q,fA p r t o q/\(p=0\/o∈b)/\Ae (o::b) cs=ao/\ ∀s:NS,yd s (vL c)=gK s o q:=by
 cases h with
 |begin_ o t h1=>exact⟨o,_,.begin_ o t h1,(iC g).1,(iC g).2,λs=>pL J⟩
 |body o l t h1 h2 h3=>exact⟨o,_,.body o l t h1 h2 h3,(iC g).1,(iC g).2,λs=>pL (by show(if l.length=20 then _ else _)=_;rw[aH h3])⟩
 |spring o i j l t h1 h2 h3 h4 h5=>exact⟨o,_,.spring o i j l t h1 h2 h3 h4 h5,(iC g).1,(iC g).2,λs=>pL (by show(if l.length=9 then _ else _)=_;rw[aH h5])⟩
 |walls o l t h1 h2 h3=>exact⟨o,_,.walls o l t h1 h2 h3,(iC g).1,(iC g).2,λs=>pL (by show(if l.length=6 then _ else _)=_;rw[aH h3])⟩
 |step o n d t h1 h2 h3=>exact⟨o,_,.step o n d t h1 h2 h3,(iC g).1,(iC g).2,λs=>pL J⟩
 |get o a n b t h1 h2 h3 h4=>exact⟨o,_,.get o a n b t h1 h2 h3 h4,(iC g).1,(iC g).2,λs=>pL J⟩
 |put o a b l t h1 h2 h3 h4 h5=>exact⟨o,_,.put o a b l t h1 h2 h3 h4 h5,(iC g).1,(iC g).2,λs=>pL J⟩
 |sums o t h1=>exact⟨o,_,.sums o t h1,(iC g).1,(iC g).2,λs=>pL J⟩
 |box o t h1=>exact⟨o,_,.box o t h1,(iC g).1,(iC g).2,λs=>pL J⟩
 |slow o d m t h1 h2 h3=>exact⟨o,_,.slow o d m t h1 h2 h3,(iC g).1,(iC g).2,λs=>pL J⟩
 |points o a n l t h1 h2 h3 h4 h5=>exact⟨o,_,.points o a n l t h1 h2 h3 h4 h5,(iC g).1,(iC g).2,λs=>pL (by show(if l.length=3 then _ else _)=_;rw[aH h5])⟩
 |frame o a n t h1 h2 h3=>exact⟨o,_,.frame o a n t h1 h2 h3,(iC g).1,(iC g).2,λs=>pL J⟩
structure qW(rest:ag ae)(n:af)(b:ag ae)(s:NS)(vi:ag ae):Prop where
 ex:∃f raw,xO xP f rest=L raw/\raw.length<=n/\(∀c∈raw,Pt (vL c)=ao)/\Ae b (raw.map vL)=ao/\vi=OY (OX yd s<|raw.map vL)
theorem qW.start(h:JW l=ao):qW l 300 [] (λ_=>ah)<|Fu l:=by
 obtain⟨raw,h1,h2,h3,h4,h5⟩:=Yp h;exact⟨_,raw,h1,h2,h3,h4,h5⟩
theorem qW.done(h:qW [] n b s vi):vi=[]:=by
 obtain⟨f,raw,h1,h2,h3,h4,h5⟩:=h;rw[YY h1] at h5;exact h5
theorem qW.turn(h:qW (p::r) n b s vi):∃m t o q IX,n=m+1/\fA p r t o q/\(p=0\/o∈b)/\qW t m (o::b) (gK s o q).1 IX/\vi=((gK s o q).2.length:ae)::((gK s o q).2++IX):=by
 obtain⟨f,raw,h1,h2,h3,h4,h5⟩:=h;obtain⟨g,c,t,cs,rfl,e1,e2⟩:=YX h1;obtain⟨o,q,a1,a2,a3,a4⟩:=YZ (YT e1<|h3 c ik) h4;have h2:cs.length+1<=n:=h2;refine⟨n-1,t,o,q,_,om,a1,a2,⟨g,cs,e2,om,λd hd=>h3 d<|gz _ hd,a3,J⟩,?_⟩;rw[h5];show OY ((yd s _).2::OX yd (yd s _).1 _)=_;rw[a4];rfl
end Bw
namespace Bw
open Rb49
variable{k:aB}{w:World}
theorem VA(h:Aq k l=ah):cH k (L w) (.body l)=(L w,⟨-3,[]⟩):=by simp[cH,h]
theorem st_body_f(h:Aq k l=L b)(m:4096<=w.bodies.length):cH k (L w) (.body l)=(L w,⟨-1,[]⟩):=by simp only[cH,h];exact aH m
theorem st_body_s(h:Aq k l=L b)(m:¬4096<=w.bodies.length):cH k (L w) (.body l)=(L {w with bodies:=w.bodies++[b]},⟨w.bodies.length,[]⟩):=by simp only[cH,h];exact ay m
def nF(w:World)(i:ae):c_:=decide (0<=i)&&decide (i<w.bodies.length)
theorem st_spring_r(h:(!nF w i||(!nF w j||decide (i=j)))=ao):cH k (L w) (.spring i j l)=(L w,⟨-2,[]⟩):=by
 simp only[cH];rw[aH];unfold nF at h;simp[E4,Od,Wv,F3,j7] at h;omega
theorem QX(h:(!nF w i||(!nF w j||decide (i=j)))=aK):0<=i/\i<w.bodies.length/\0<=j/\j<w.bodies.length/\i≠j:=by
 unfold nF at h;simp[zJ,Jk,eR,F3,j7] at h;omega
theorem st_spring_i(h:(!nF w i||(!nF w j||decide (i=j)))=aK):cH k (L w) (.spring i j l)=(match EJ k i.toNat j.toNat l with
 |none=>(L w,⟨-3,[]⟩)
 |some p=>if MOSTSPRINGS<=w.springs.length then(L w,⟨-1,[]⟩) else(L {w with springs:=w.springs++[p]},⟨w.springs.length,[]⟩)):=by
 have:=QX h;simp[cH];rw[ay om]
 cases EJ k i.toNat j.toNat l<;>rfl
theorem VB(h:EV k l=ah):cH k (L w) (.walls l)=(L w,⟨-3,[]⟩):=by simp[cH,h]
theorem VC(h:EV k l=L p):cH k (L w) (.walls l)=(L {w with walls:=L p},⟨0,[]⟩):=by simp[cH,h]
theorem st_step_r(h:n<0\/1000000<n):cH k (L w) (.step n dt)=(L w,⟨-2,[]⟩):=by simp only[cH];rw[aH h]
theorem st_step_n(h:¬(n<0\/1000000<n))(f:¬jv k dt=ao):cH k (L w) (.step n dt)=(L w,⟨-3,[]⟩):=by simp[cH];rw[ay h,aH<|by simpa using f]
theorem st_step_i{dt:F}(hk:bS k)(h:¬(n<0\/1000000<n))(f:cQ k dt):cH k (L w) (.step n dt)=(match jl k dt {springs:=w.springs,walls:=w.walls} n.toNat w.bodies with
 |none=>(L w,⟨-5,[]⟩)
 |some l=>(L {w with bodies:=l},⟨0,[]⟩)):=by
 simp[cH];obtain⟨x,e⟩:=Z9 hk f;rw[ay h,ay (by rw[f.2];decide),VE e];have:∀n bs,jl k dt w n bs=jl k dt {springs:=w.springs,walls:=w.walls} n bs:=λn=>by
  induction n with
  |zero=>intro bs;rfl
  |succ n ih=>
   intro bs;show(jS k dt _).bind _=(jS k dt _).bind _
   congr 1
   funext x
   exact ih x
 rw[this]
 cases jl k dt {springs:=w.springs,walls:=w.walls} n.toNat w.bodies<;>rfl
theorem st_get_r(h:(!fE w a n||(decide (b<0)||decide (20<=b)))=ao):cH k (L w) (.get a n b)=(L w,⟨-2,[]⟩):=by
 simp[cH,sL]
 cases e:fE w a n with
 |false=>rfl
 |true=>
  rw[e] at h;simp[Wx,sU,E4,j7] at h;simp only[nN];rw[aH h]
theorem st_get_s(h:(!fE w a n||(decide (b<0)||decide (20<=b)))=aK):cH k (L w) (.get a n b)=(L w,⟨0,((w.bodies.drop a.toNat).take n.toNat).map λb'=>(numbers b').getD b.toNat 0⟩):=by
 simp[zJ,Jk,F3] at h;simp only[cH,sL];rw[h.1];simp only[nN];rw[ay om]
def tQ(b:ae):c_:=decide (0<=b)&&free b.toNat
theorem st_put_r(h:(!fE w a n|| !tQ b)=ao):cH k (L w) (.put a n b l)=(L w,⟨-2,[]⟩):=by
 simp[cH,sL]
 cases e:fE w a n with
 |false=>rfl
 |true=>
  rw[e] at h;unfold tQ at h;simp[Wx,sU,Od,Wv,F3] at h;simp only[nN];rw[aH (h.imp (λz=>by omega) λz=>z)]
theorem st_put_i(h:(!fE w a n|| !tQ b)=aK):cH k (L w) (.put a n b l)=if l.all (jv k)=ao then(L<|putIn w a.toNat b.toNat l,⟨0,[]⟩) else(L w,⟨-3,[]⟩):=by
 unfold tQ at h;simp[zJ,Jk,eR,j7] at h;simp only[cH,sL];rw[h.1];simp only[nN];rw[ay (by rw[h.2.2];simp;omega)]
 cases l.all _<;>rfl
theorem st_sums:cH k (L w) .sums=(match Ac k {bodies:=w.bodies,springs:=w.springs} with
 |none=>(L w,⟨-5,[]⟩)
 |some l=>(L w,⟨0,l⟩)):=J
theorem st_box_n(h:w.bodies.length=0):cH k (L w) .box=(L w,⟨-1,[]⟩):=by
 simp only[cH];rw[JB h];rfl
theorem st_box_s(h:¬w.bodies.length=0):cH k (L w) .box=(L w,⟨0,box k {bodies:=w.bodies}⟩):=by
 simp only[cH];rw[ay]
 ·rfl
 ·intro z
  rw[List.isEmpty_iff] at z;rw[z] at h;exact h J
theorem st_slow_r(h:m<0\/4096<m):cH k (L w) (.slow d m)=(L w,⟨-2,[]⟩):=by simp only[cH];rw[aH h]
theorem st_slow_n(h:¬(m<0\/4096<m))(f:¬jv k d=ao):cH k (L w) (.slow d m)=(L w,⟨-3,[]⟩):=by simp[cH];rw[ay h,aH<|by simpa using f]
theorem st_slow_i(h:¬(m<0\/4096<m))(f:jv k d=ao):cH k (L w) (.slow d m)=(match slow k d w with
 |none=>(L w,⟨-5,[]⟩)
 |some l=>(L w,⟨l.length,l.take m.toNat⟩)):=by simp[cH];rw[ay h,ay (by rw[f];decide)];cases slow k d w<;>rfl
def placeOf(k:aB)(r:P)(b:ff):aw P:=(turned k b.turn r).bind λa=>iR k b.at_ a
theorem st_points_r(h:fE w a n=aK):cH k (L w) (.points a n l)=(L w,⟨-2,[]⟩):=by
 simp only[cH,sL,h];rfl
theorem st_points_n(h:fE w a n=ao)(f:[x,y,z].all (jv k)=aK):cH k (L w) (.points a n [x,y,z])=(L w,⟨-3,[]⟩):=by
 simp only[cH,sL,h,nN];rw[aH f]
theorem st_points_i(h:fE w a n=ao)(f:[x,y,z].all (jv k)=ao):cH k (L w) (.points a n [x,y,z])=(match ba (placeOf k ⟨x,y,z⟩) ((w.bodies.drop a.toNat).take n.toNat) with
 |none=>(L w,⟨-5,[]⟩)
 |some ps=>(L w,⟨0,ps.flatMap oj⟩)):=by
 simp only[cH,sL,h,nN];rw[ay (by rw[f];decide),wJ];rfl
theorem st_frame_r(h:fE w a n=aK):cH k (L w) (.frame a n)=(L w,⟨-2,[]⟩):=by
 simp only[cH,sL,h];rfl
def sH(b:ff):ag F:=b.at_.list++b.turn.list
theorem st_frame_s(h:fE w a n=ao):cH k (L w) (.frame a n)=(L w,⟨0,(((w.bodies.drop a.toNat).take n.toNat).flatMap sH).map (other k<|otherKind k)⟩):=by
 simp[cH,sL,h,nN];rw[List.map_flatMap];rfl
theorem K9(h:fE w a n=ao):0<=a/\0<=n/\a+n<=w.bodies.length:=by
 unfold fE at h;simpa using h
theorem Nc:∀bs:ag ff,(bs.flatMap sH).length=7*bs.length
 |[]=>rfl
 |b::bs=>by rw[JC,iL,Nc bs];show 7+_=7*(bs.length+1);omega
theorem N2:∀ps:ag P,(ps.flatMap oj).length=3*ps.length
 |[]=>rfl
 |b::bs=>by rw[JC,iL,N2 bs];show 3+_=3*(bs.length+1);omega
end Bw
namespace Bw
open Rb49
open Rb49Neutral (nats)
section
variable{r t:ag ae}{o:ae}{q:Call}
theorem Kb(h:fA 0 r t o q):r=o::t/\gT o/\q= .begin_:=by
 cases h<;>first|(exfalso;omega)|exact⟨J,by assumption,J⟩
theorem Yq(h:fA 1 r t o q):∃l,r=o::20::(l++t)/\(∀z∈l,gd o z)/\l.length=20/\q= .body (nats l):=by
 cases h<;>first|(exfalso;omega)|exact⟨_,J,by assumption,by assumption,J⟩
theorem Yt(h:fA 2 r t o q):∃i j l,r=o::i::j::9::(l++t)/\(∀z∈l,gd o z)/\l.length=9/\q= .spring i j (nats l):=by
 cases h<;>first|(exfalso;omega)|exact⟨_,_,_,J,by assumption,by assumption,J⟩
theorem Yu(h:fA 3 r t o q):∃l,r=o::6::(l++t)/\(∀z∈l,gd o z)/\l.length=6/\q= .walls (nats l):=by
 cases h<;>first|(exfalso;omega)|exact⟨_,J,by assumption,by assumption,J⟩
theorem Yv(h:fA 4 r t o q):∃n d,r=o::n::d::t/\gd o d/\q= .step n d.toNat:=by
 cases h<;>first|(exfalso;omega)|exact⟨_,_,J,by assumption,J⟩
theorem Yw(h:fA 5 r t o q):∃a n b,r=o::a::n::b::t/\q= .get a n b:=by
 cases h<;>first|(exfalso;omega)|exact⟨_,_,_,J,J⟩
theorem Yx(h:fA 6 r t o q):∃a b l,r=o::a::b::l.length::(l++t)/\(∀z∈l,gd o z)/\l.length<=4096/\q= .put a l.length b (nats l):=by
 cases h<;>first|(exfalso;omega)|exact⟨_,_,_,J,by assumption,by assumption,J⟩
theorem Yy(h:fA 7 r t o q):r=o::t/\q= .sums:=by
 cases h<;>first|(exfalso;omega)|exact⟨J,J⟩
theorem Yz(h:fA 8 r t o q):r=o::t/\q= .box:=by
 cases h<;>first|(exfalso;omega)|exact⟨J,J⟩
theorem YA(h:fA 9 r t o q):∃d m,r=o::d::m::t/\gd o d/\q= .slow d.toNat m:=by
 cases h<;>first|(exfalso;omega)|exact⟨_,_,J,by assumption,J⟩
theorem Yr(h:fA 10 r t o q):∃a n l,r=o::a::n::3::(l++t)/\(∀z∈l,gd o z)/\l.length=3/\q= .points a n (nats l):=by
 cases h<;>first|(exfalso;omega)|exact⟨_,_,_,J,by assumption,by assumption,J⟩
theorem Ys(h:fA 11 r t o q):∃a n,r=o::a::n::t/\q= .frame a n:=by
 cases h<;>first|(exfalso;omega)|exact⟨_,_,J,J⟩
theorem PL(h:fA p r t o q):0<=p/\p<=11:=by cases h<;>omega
end
theorem Ku{l:ag ae}(h:l.drop n=x::r):l[n]? =L x/\l.drop (n+1)=r/\n<l.length:=by
 have h0:(l.drop n)[0]? =L x:=by rw[h];rfl
 rw[W9,zS] at h0;refine⟨h0,?_,(List.getElem?_eq_some_iff.mp h0).1⟩;rw[<-WZ,h];rfl
theorem Qm{l:ag ae}(hn:n<=l.length)(h:l.drop n=x++t):l.drop (n+x.length)=t/\(l.drop n).take x.length=x/\n+x.length<=l.length:=by
 refine⟨by rw[<-WZ,h,List.drop_left],by rw[h,List.take_left],?_⟩;have:=gH JD h;rw[B1,iL] at this;omega
end Bw
namespace Bw
open Rb49
theorem step_some(k:aB)(w:World)(c:Call):∃w',(cH k (L w) c).1=L w':=by
 cases c<;>simp[cH]<;>repeat' (first|exact⟨_,J⟩|split)
theorem nstep_has{s:NS}(h:fA p r t o q)(hp:p=0\/ ∃w,s o=L w)(hb:∀j∈b,∃w,s j=L w):∀j∈o::b,∃w,(gK s o q).1 j=L w:=λj hj=>by
 show∃w,(if j=o then(cH _ (s o) q).1 else s j)=L w;by_cases e:j=o
 ·rw[aH e]
  rcases hp with rfl|⟨w,hw⟩
  ·obtain⟨_,_,rfl⟩:=Kb h
   exact⟨{},by cases s o<;>rfl⟩
  ·rw[hw]
   exact step_some _ _ _
 ·rw[ay e]
  rcases List.mem_cons.mp hj with z|z
  ·exact absurd z e
  ·exact hb j z
theorem nstep_len{s:NS}(h:fA p r t o q)(hp:p=0\/ ∃w,s o=L w)(hb:∀w,s o=L w->w.bodies.length<=4096):(gK s o q).2.length<=28673:=by
 unfold gK;rcases hp with rfl|⟨w,hw⟩
 ·obtain⟨_,_,rfl⟩:=Kb h
  cases s o<;>(show 1<=28673)<;>decide
 ·rw[hw]
  have:=Tq (k:=Af o) (hb w hw) q;show(Ff _ _).length+1<=_;rw[hJ];omega
end Bw
namespace L2
open PySem PySem.Spec PyProof.Rows
abbrev gV:=Sum ae ax
def qr:gV->aE->c_
 | .inl k,v=>X5 k v
 | .inr x,v=>X6 x v
def keyH(w:World):gV->ae
 | .inl k=>oB k
 | .inr x=>hashStr w x
theorem uk:∀{k:gV}{v:aE},qr k v=ao->(∃i t,k=eP i/\v=J' i t)\/(∃x t,k=Ai x/\v=J_ x t)
 | .inl i,v,h=>by
  obtain⟨t,e⟩:=Value.isInt_shape h;exact .inl ⟨i,t,J,e⟩
 | .inr x,v,h=>by
  obtain⟨t,e⟩:=Value.isStrOf_shape h;exact .inr ⟨x,t,J,e⟩
theorem keyIs_int(i:ae)(t:Tok):qr (.inl i) (.int i t)=ao:=by simp[qr,X5]
theorem keyIs_str(x:ax)(t:Tok):qr (.inr x) (.str x t)=ao:=by simp[qr,X6]
theorem key_ll(a b:ae):decide ((eP a:gV)=eP b)=(a==b):=by
 by_cases e:a=b
 ·subst e;simp
 ·have h:¬(eP a:gV)=eP b:=λq=>e<|X1 q
  rw[gW h];exact(beq_eq_false_iff_ne.mpr e).symm
theorem key_rr(a b:ax):decide ((Ai a:gV)=Ai b)=decide (a=b):=by
 by_cases e:a=b
 ·subst e;simp
 ·have h:¬(Ai a:gV)=Ai b:=λq=>e<|Sum.inr.inj q
  rw[gW h,gW e]
theorem key_lr(a:ae)(b:ax):decide ((eP a)=Ai b)=aK:=gW (λq=>nomatch q)
theorem key_rl(a:ax)(b:ae):decide ((Ai a)=eP b)=aK:=gW (λq=>nomatch q)
def nQ(prog:cN)(w:World):PySem.KeyKind prog w gV where
 is:=qr
 hash:=keyH w
 inj:=λv a b ha hb=>by
  rcases uk ha with⟨i,t,rfl,rfl⟩|⟨x,t,rfl,rfl⟩
  ·rcases uk hb with⟨j,u,rfl,e⟩|⟨y,u,rfl,e⟩
   ·injection e with e1 _;rw[e1]
   ·exact nomatch e
  ·rcases uk hb with⟨j,u,rfl,e⟩|⟨y,u,rfl,e⟩
   ·exact nomatch e
   ·injection e with e1 _;rw[e1]
 byValue:=λk v h=>by
  rcases uk h with⟨i,t,rfl,rfl⟩|⟨x,t,rfl,rfl⟩<;>rfl
 pyHash:=λhv h=>by
  rcases uk hv with⟨i,t,rfl,rfl⟩|⟨x,t,rfl,rfl⟩
  ·exact wpAny_pyHash_int h
  ·exact wpAny_pyHash_str h
 eqBool:=λhu hv h=>by
  rcases uk hu with⟨i,t,rfl,rfl⟩|⟨x,t,rfl,rfl⟩
  ·rcases uk hv with⟨j,u,rfl,rfl⟩|⟨y,u,rfl,rfl⟩
   ·rw[key_ll] at h;exact wpAny_eqBool_int h
   ·rw[key_lr] at h;exact SeqAt.EqAt.int_str i t y u _ _ _ _ h
  ·rcases uk hv with⟨j,u,rfl,rfl⟩|⟨y,u,rfl,rfl⟩
   ·rw[key_rl] at h;exact SeqAt.EqAt.str_int x t j u _ _ _ _ h
   ·rw[key_rr] at h;exact wpAny_eqBool_str h
 «strs»:=λk x t v h=>by
  rcases uk h with⟨i,u,rfl,e⟩|⟨y,u,rfl,e⟩
  ·exact nomatch e
  ·injection e with e1 _
   subst e1
   cases v<;>rfl
theorem mixKind_int(prog:cN)(w:World)(i:ae)(t:Tok):(nQ prog w).is (.inl i) (.int i t)=ao:=keyIs_int i t
theorem mixKind_str(prog:cN)(w:World)(x:ax)(t:Tok):(nQ prog w).is (.inr x) (.str x t)=ao:=keyIs_str x t
end L2
namespace L2
open PySem PySem.Spec PyProof.Rows
inductive V where
 |cE|bl (b:c_)|int (i:ae)|str (x:ax)|ny (b:jC UInt8)|Gh (b:UInt64)|ref (a:ak)|ty (n:yf)
 deriving DecidableEq
def RelV:V->aE->Prop
 | .cE,u=>u=Cy
 | .bl b,u=>u=Cw b
 | .int i,u=>∃t,u=J' i t
 | .str x,u=>∃t,u=J_ x t
 | .ny b,u=>∃t,u=X3 b t
 | .Gh b,u=>∃t,u=X4 b t
 | .ref a,u=>u=j3 a
 | .ty n,u=>u=Aj n
abbrev cI:ag V->ag aE->Prop:=Paired RelV
theorem cI.length(r:cI xs us):xs.length=us.length:=OV r
theorem cI.get:∀{xs:ag V}{us:ag aE}{i:af}{x:V},cI xs us->xs[i]? =L x-> ∃u,us[i]? =L u/\RelV x u
 |_,_,_,_,.nil,e=>by simp at e
 |_,_,0,_,.cons r _,e=>by simp at e;subst e;exact⟨_,J,r⟩
 |_,_,i+1,x,.cons _ t,e=>by
  obtain⟨u,h1,h2⟩:=cI.get t<|by simpa using e
  exact⟨u,by simpa using h1,h2⟩
theorem cI.set(r:RelV x u):∀{xs:ag V}{us:ag aE}i,cI xs us->cI (xs.set i x) (us.set i u)
 |_,_,_,.nil=>.nil
 |_,_,0,.cons _ t=>.cons r t
 |_,_,i+1,.cons q t=>.cons q<|cI.set r i t
theorem cI.append:∀{xs ys:ag V}{us ws:ag aE},cI xs us->cI ys ws->cI (xs++ys) (us++ws)
 |_,_,_,_,.nil,s=>s
 |_,_,_,_,.cons r t,s=>.cons r<|cI.append t s
theorem cI.take:∀{xs:ag V}{us:ag aE}n,cI xs us->cI (xs.take n) (us.take n)
 |_,_,0,_=>.nil
 |_,_,_+1,.nil=>.nil
 |_,_,n+1,.cons r t=>.cons r<|cI.take n t
theorem cI.drop:∀{xs:ag V}{us:ag aE}n,cI xs us->cI (xs.drop n) (us.drop n)
 |_,_,0,r=>r
 |_,_,_+1,.nil=>.nil
 |_,_,n+1,.cons _ t=>cI.drop n t
def kW:aw V->aw aE->Prop
 |some v,L u=>RelV v u
 |none,ah=>i9
 |_,_=>eW
def KV:ag (κ×V)->ag (κ×aE)->Prop:=Paired λp q=>p.1=q.1/\RelV p.2 q.2
def kV:gV->V
 | .inl i=>.int i
 | .inr x=>.str x
inductive HO where
 |lst (xs:ag V)
 |tup (xs:ag V)
 |dK (aW:ag<|gV×V)|dT (aW:ag<|ag gV×V)
 |set (S:ae->c_) (n:af)
 |ins (C dx:ak) (fs:ag<|ax×V)
 |own (x:ak)
 |xd (fs:ag<|ax×V)
 |met (f x:ak)
 |MA (lo hi:ae)
 |iP (o:eN) (u:HO)
 |ve (ps:jC aE)
 |ext (φ:b9->Prop)
abbrev Hp:=ak->aw HO
def aC(H:Hp)(a:ak)(o:HO):Hp:=λb=>if b=a then L o else H b
theorem bp:aC H a o a=L o:=by unfold aC;rw[aH J]
theorem bI(h:b≠a):aC H a o b=H b:=by unfold aC;rw[ay h]
theorem eF{H:Hp}(h:H a=L o)(h':H b=L u)(d:o≠u):a≠b:=by
 intro e;subst e;rw[h] at h';exact d<|mV h'
theorem dv{H:Hp}(h:H a=L o)(h':H b=ah):a≠b:=by
 intro e;subst e;rw[h] at h';cases h'
section
variable(P:cN)(w:World)
def gO(H:Hp)(h:b9)(a:ak):HO->Prop
 | .lst xs=>xs.length<=bH/\ ∃(aZ:ag aE)(n:af),cI xs aZ/\h.get? a=L {cls:=.type "list",data:=.seq aZ.toArray n}
 | .tup xs=>xs.length<=bH/\ ∃aZ,cI xs aZ/\IsTup h a aZ.toArray
 | .dK aW=>aW.length<=bH/\(a==xu)=aK/\ ∃vs,KV aW vs/\h.DictOf (nQ P w) a vs
 | .dT aW=>aW.length<=bH/\(a==xu)=aK/\ ∃xs,Paired (λp q=>p.1=q.1/\H q.2.1=L (.tup<|p.1.map kV)/\RelV p.2 q.2.2) aW xs/\
  ∃o es ep,h.get? a=L o/\o.ExactDict/\o.data= .dict es ep/\es.toList=xs.map (entryOfKey (I0<|nQ P w))/\(xs.map (·.1)).Nodup
 | .set S n=>h.SetOf (intKind P w) a S n
 | .ins C dx fs=>H dx=L (.own a)/\fs.length<=1000/\dx≠a/\h.get? a=L (Cg C dx)/\ ∃mA,h.Ns1 dx mA/\(∀f,kW (fs.lookup f)<|mA f)/\Pe mA (fs.map (·.1))
 | .own _=>∃o,h.get? a=L o
 | .xd fs=>∃mA,h.Ns1 a mA/\ ∀f,kW (fs.lookup f)<|mA f
 | .MA lo hi=>∃t u v,h.get? a=L {cls:=.type "range",data:=.fields #[.int lo t,.int hi u,.int 1 v]}
 | .iP o u=>h.get? a=L o/\gO H h a u
 | .ve ps=>h.get? a=L {cls:=.none,data:=.fields ps}
 | .met f x=>h.get? a=L (PySem.W.methodObj (.ref f)<|.ref x)
 | .ext φ=>φ h/\(∃o,h.get? a=L o)/\ ∀h1 h2,φ h1->(∀o,h1.get? a=L o->h2.get? a=L o)->φ h2
def eG(H:Hp)(h:b9):Prop:=∀a o,H a=L o->gO P w H h a o
end
section
variable{P:cN}{w:World}{H H':Hp}{h h':b9}{a:ak}{o:HO}
theorem gO.lt(x:gO P w H h a o):a<h.objs.size:=by
 cases o with
 |lst xs=>obtain⟨_,_,_,_,e⟩:=x;exact d_ e
 |tup xs=>obtain⟨_,_,_,p⟩:=x;exact p.lt
 |dK aW=>obtain⟨_,_,_,_,o,_,_,e,_⟩:=x;exact d_ e
 |dT aW=>obtain⟨_,_,_,_,o,_,_,e,_⟩:=x;exact d_ e
 |set S n=>obtain⟨o,_,_,_,e,_⟩:=x;exact d_ e
 |ins C dx fs=>obtain⟨_,_,_,e,_⟩:=x;exact d_ e
 |own y=>obtain⟨_,e⟩:=x;exact d_ e
 |xd fs=>obtain⟨_,⟨_,_,_,e,_⟩,_⟩:=x;exact d_ e
 |MA lo hi=>obtain⟨_,_,_,e⟩:=x;exact d_ e
 |iP ob u=>obtain⟨e,_⟩:=x;exact d_ e
 |ve ps=>exact d_ (show h.get? a=L _ from x)
 |met f y=>exact d_ (show h.get? a=L _ from x)
 |ext φ=>obtain⟨_,⟨_,e⟩,_⟩:=x;exact d_ e
theorem Paired.LI{F G:α->β->Prop}:∀{RV:ag α}{RY:ag β},Paired F RV RY->(∀a b,F a b->G a b)->Paired G RV RY
 |_,_,.nil,_=>.nil
 |_,_,.cons r t,f=>.cons (f _ _ r)<|Paired.LI t f
theorem gO.vd(x:gO P w H h a o)(k:∀b u,(b=a\/H b=L (.own a))->h.get? b=L u->h'.get? b=L u)
 (ho:∀b,H b=L (.own a)->H' b=L (.own a)) (ht:∀b xs,H b=L (.tup xs)->H' b=L (.tup xs)):gO P w H' h' a o:=by
 induction o with
 |lst xs=>obtain⟨z,aZ,n,r,e⟩:=x;exact⟨z,aZ,n,r,k _ _ (.inl J) e⟩
 |tup xs=>obtain⟨z,aZ,r,ob,e,c⟩:=x;exact⟨z,aZ,r,ob,k _ _ (.inl J) e,c⟩
 |dK aW=>obtain⟨z,y,vs,r,ob,es,ep,e,c⟩:=x;exact⟨z,y,vs,r,ob,es,ep,k _ _ (.inl J) e,c⟩
 |dT aW=>
  obtain⟨z,y,xs,r,ob,es,ep,e,c⟩:=x;exact⟨z,y,xs,Paired.LI r λp q z=>⟨z.1,ht _ _ z.2.1,z.2.2⟩,ob,es,ep,k _ _ (.inl J) e,c⟩
 |set S n=>obtain⟨ob,es,ep,t,e,c⟩:=x;exact⟨ob,es,ep,t,k _ _ (.inl J) e,c⟩
 |ins C dx fs=>
  obtain⟨d,z,ne,e,mA,⟨od,es,ep,e2,c⟩,r⟩:=x;exact⟨ho _ d,z,ne,k _ _ (.inl J) e,mA,⟨od,es,ep,k _ _ (.inr d) e2,c⟩,r⟩
 |own y=>obtain⟨ob,e⟩:=x;exact⟨ob,k _ _ (.inl J) e⟩
 |xd fs=>obtain⟨mA,⟨od,es,ep,e,c⟩,r⟩:=x;exact⟨mA,⟨od,es,ep,k _ _ (.inl J) e,c⟩,r⟩
 |MA lo hi=>obtain⟨t,u,v,e⟩:=x;exact⟨t,u,v,k _ _ (.inl J) e⟩
 |iP ob u ih=>obtain⟨e,q⟩:=x;exact⟨k _ _ (.inl J) e,ih q⟩
 |ve ps=>
  have e:=x;exact k a _ (.inl J) e
 |met f y=>
  have e:=x;exact k a _ (.inl J) e
 |ext φ=>obtain⟨p,⟨o,e⟩,st⟩:=x;exact⟨st _ _ p λo q=>k _ _ (.inl J) q,⟨o,k _ _ (.inl J) e⟩,st⟩
theorem eG.lt(x:eG P w H h)(e:H a=L o):a<h.objs.size:=(x a o e).lt
theorem eG.fresh(x:eG P w H h)(e:h.objs.size<=a):H a=ah:=by
 cases q:H a with
 |none=>rfl
 |some u=>exact absurd (gn (x.lt q) e)<|mU _
theorem eG.kept(x:eG P w H h)(k:∀b u,h.get? b=L u->h'.get? b=L u):eG P w H h':=λa o e=>
 (x a o e).vd (λb u _ q=>k b u q) (λ_ q=>q) λ_ _ q=>q
theorem eG.kF(x:eG P w H h)(k:∀b u,h.get? b=L u->h'.get? b=L u)(hp:h.objs.size<=a)(new:gO P w (aC H a o) h' a o):eG P w (aC H a o) h':=λb u e=>by
 have hn:=x.fresh hp;by_cases hb:b=a
 ·subst hb;rw[bp] at e;cases e;exact new
 ·rw[bI hb] at e
  exact(x b u e).vd (λc v _ q=>k c v q) (λc q=>by rw[bI<|dv q hn];exact q) λc xs q=>by rw[bI<|dv q hn];exact q
end
def Rd(H:Hp)(a:ak)(u:HO):Prop:=H a=L u\/ ∃o,H a=L (.iP o u)
theorem Rd.ok(r:Rd H a u)(x:eG P w H h):gO P w H h a u:=by
 rcases r with r|⟨o,r⟩
 ·exact x a u r
 ·obtain⟨_,q⟩:=x a _ r
  exact q
def B5:aw HO->Prop
 |some (.lst _)=>i9
 |some (.dK _)=>i9
 |some (.dT _)=>i9
 |some (.set _ _)=>i9
 |some (.ins _ _ _)=>i9
 |some (.ext _)=>i9
 |_=>eW
section
variable{P:cN}{w:World}{H:Hp}{h h':b9}{x e:ak}{o':HO}
theorem eG.vv(ok:eG P w H h)(mu:B5<|H x)(he:e=x\/H e=L (.own x))(k:∀b u,b≠e->h.get? b=L u->h'.get? b=L u)(AH:∃u,h'.get? e=L u)
 (new:gO P w (aC H x o') h' x o'):eG P w (aC H x o') h':=λb u q=>by
 have SF:∀c y,H c=L (.own y)->c≠x:=λc y r z=>by subst z;rw[r] at mu;exact mu
 have ntup:∀c xs,H c=L (.tup xs)->c≠x:=λc xs r z=>by subst z;rw[r] at mu;exact mu
 by_cases hb:b=x
 ·subst hb;rw[bp] at q;cases q;exact new
 ·rw[bI hb] at q
  by_cases hbe:b=e
  ·have q':H b=L (.own x):=by
    rcases he with z|z
    ·exact absurd (hbe.trans z) hb
    ·rw[hbe];exact z
   rw[q] at q';cases q'
   obtain⟨v,hv⟩:=AH;exact⟨v,by rw[hbe];exact hv⟩
  ·refine(ok b u q).vd (λc v hc r=>k c v ?_ r) (λc r=>by rw[bI<|SF c b r];exact r) λc xs r=>by rw[bI<|ntup c xs r];exact r
   rcases hc with rfl|hc
   ·exact hbe
   ·rintro rfl
    rcases he with z|z
    ·exact SF c b hc z
    ·rw[hc] at z;cases z;exact hb J
end
structure Un(fs ex:ag ak)(H H':Hp)(h h':b9):Prop where
 keep:∀b o,h.get? b=L o->H b=ah->b∉fs->b∉ex->h'.get? b=L o
 jj:∀b o,h.get? b=L o->H b=ah->b∈fs->b∉ex-> ∃sl,h'.get? b=L {o with slots:=sl}
 free:∀b o,h.get? b=L o->H b=ah->b∉ex->H' b=ah
 there:∀b o,h.get? b=L o->b∉ex-> ∃o',h'.get? b=L o'
 mH:∀b xs,H b=L (.tup xs)->H' b=L (.tup xs)
 lh:∀b o u,H b=L (.iP o u)->H' b=L (.iP o u)
 mF:∀b ps,H b=L (.ve ps)-> ∃more,H' b=L (.ve<|ps++more)
section
variable{fs jw ex ex':ag ak}{H U H2:Hp}{h h1 h2 h':b9}{a x e:ak}{o:HO}
theorem Un.any(u:Un fs ex H U h h1)(q:h.get? b=L ob)(n:H b=ah)(hx:b∉ex):∃sl,h1.get? b=L {ob with slots:=sl}:=by
 by_cases hb:b∈fs
 ·exact u.jj b ob q n hb hx
 ·exact⟨ob.slots,u.keep b ob q n hb hx⟩
theorem Un.kept(k:∀b u,h.get? b=L u->h'.get? b=L u):Un fs ex H H h h':=⟨λb ob q _ _ _=>k b ob q,λb ob q _ _ _=>⟨ob.slots,k b ob q⟩,λ_ _ _ n _=>n,λb ob q _=>⟨ob,k b ob q⟩,λ_ _ q=>q,λ_ _ _ q=>q,λ_ ps q=>⟨#[],by rw[q];simp⟩⟩
theorem Un.refl:Un fs ex H H h h:=Un.kept λ_ _ q=>q
theorem Un.kF(k:∀b u,h.get? b=L u->h'.get? b=L u)(hp:h.objs.size<=a)(hn:H a=ah):Un fs ex H (aC H a o) h h' where
 keep:=λb u q _ _ _=>k b u q
 jj:=λb u q _ _ _=>⟨u.slots,k b u q⟩
 free:=λb u q n _=>by rw[bI (jX<|gn (d_ q) hp)];exact n
 there:=λb u q _=>⟨u,k b u q⟩
 mH:=λb xs q=>by rw[bI<|dv q hn];exact q
 lh:=λb u xs q=>by rw[bI<|dv q hn];exact q
 mF:=λb ps q=>⟨#[],by rw[bI<|dv q hn,q];simp⟩
theorem Un.vv(mu:B5<|H x)(he:e=x\/H e=L (.own x))(k:∀b u,b≠e->h.get? b=L u->h'.get? b=L u)(AH:∃u,h'.get? e=L u):Un fs ex H (aC H x o) h h':=by
 have hx:∀b,H b=ah->b≠x:=λb n z=>by subst z;rw[n] at mu;exact mu
 have hb:∀b,H b=ah->b≠e:=λb n z=>by
  subst z;rcases he with r|r
  ·exact hx b n r
  ·rw[n] at r;cases r
 have hm:∀b u,H b=L u-> ¬B5 (L u)->b≠x:=λb u q nm z=>by subst z;rw[q] at mu;exact nm mu
 refine⟨λb u q n _ _=>k b u (hb b n) q,λb u q n _ _=>⟨u.slots,k b u (hb b n) q⟩,λb u q n _=>by rw[bI<|hx b n];exact n,λb u q _=>?_,λb xs q=>by rw[bI (hm b _ q λz=>z)];exact q,λb u xs q=>by rw[bI (hm b _ q λz=>z)];exact q,λb ps q=>⟨#[],by rw[bI (hm b _ q λz=>z),q];simp⟩⟩
 by_cases hbe:b=e
 ·subst hbe;exact AH
 ·exact⟨u,k b u hbe q⟩
end
def V5(h:b9)(H:Hp):ag ak:=(il h.objs.size).filter λa=>(H a).isSome
def AI(h:b9)(H:Hp):b9:=z5 h<|V5 h H
theorem hidT_size(h:b9)(H:Hp):(AI h H).objs.size=h.objs.size:=PySem.W.hideAll_size _ _
theorem hidT_get(e:h.get? b=L o)(n:H b=ah):(AI h H).get? b=L o:=Fv _ e λhm=>by
  have q:=(List.mem_filter.mp hm).2;rw[n] at q;simp at q
theorem of_hidT(e:(AI h H).get? b=L o):h.get? b=L o/\H b=ah:=by
 have e':=JY _ e;refine⟨e',?_⟩
 cases q:H b with
 |none=>rfl
 |some x=>
  have hm:b∈V5 h H:=List.mem_filter.mpr ⟨List.mem_range.mpr<|d_ e',by simp[q]⟩;have z:(AI h H).get? b=ah:=XO _ hm;rw[z] at e;cases e
end L2
namespace L2
open PySem PySem.Spec PyProof.Rows
structure Mod(K:aq)(mg:ax->aw aE)(base:b9):Prop where
 rZ:K.In base
 tX:base.Ns d9 mg
 An:∃mb,base.Ns P4 mb/\ ∀x:ax,x≠"__name__"->mb x=CL x
 nolimit:base.NoLimit
structure Cx where
 prog:cN
 w:World
 K:aq
 mg:ax->aw aE
 base:b9
 A:oa
 N:ag ax
 gF:de
 sX:Hp
 env:kj
 bC:ag kj
 stack:ag kj
 ex:ag ak
 fn:ax->c_
 j6:c_
 pn:ag (ak×eN)
 xe:aE->de->Prop
def eY(l:ag kj):ag ak:=l.filterMap (·.frame)
abbrev Cx.fs(X:Cx):ag ak:=eY X.bC
def Cz(sc:lZ)(x:ax):Prop:=sc.names.lookup x=L .local\/sc.names.lookup x=L .cell\/sc.names.lookup x=L .free
def Loc(sc:lZ)(x:ax):Prop:=sc.names.lookup x=L .local\/sc.names.lookup x=L .cell
def Look(env:kj)(h:b9)(m:ax->aw aE)(x:ax)(u:aE):Prop:=(env.kindOf x=L .local/\m x=L u)\/((env.kindOf x=L .cell\/env.kindOf x=L .free)/\ ∃c,env.cells.lookup x=L c/\h.IsCell c (L u))
structure Cx.Ok(X:Cx):Prop where
 gX:Mod X.K X.mg X.base
 kind:X.env.scope.kind= .function
 tX:X.env.globals=d9
 An:X.env.builtins=P4
 above:X.gF.heap.objs.size<=X.env.locals
 inj:∀x y c,X.env.cells.lookup x=L c->X.env.cells.lookup y=L c->x=y
 t_:∀x,(X.env.kindOf x=L .cell\/X.env.kindOf x=L .free)-> ∃c,X.env.cells.lookup x=L c
 CO:∀x c,X.fn x=ao->X.env.cells.lookup x=L c->X.gF.heap.objs.size<=c
 hd:X.j6=ao->X.A.handled=ah
 frames:X.A.frames=L X.stack
 IL:X.stack=X.bC\/(X.stack=X.env::X.bC/\X.env.frame=L X.env.locals)
 As:∀b∈X.ex,b≠X.env.locals/\ ∀x c,X.env.cells.lookup x=L c->c≠b
 bs:∀b o,X.base.get? b=L o->X.gF.heap.get? b=L o/\X.sX b=ah
 rH:X.base.objs.size<=X.gF.heap.objs.size
 DT:∀b o,X.base.get? b=L o->b∉X.ex
 Au:∀b∈X.ex,b∉X.fs
 lq:X.gF.heap.FunFrames X.base X.bC
 tW:∀b∈X.fs,X.sX b=ah
structure Inv(X:Cx)(ai:ag<|ak×eN)(σ:ag<|aw V)(H:Hp)(s:de):Prop where
 ok:X.Ok
 os:s.os=X.gF.os
 eC:sQ s.gens
 base:Un X.fs X.ex X.sX H X.gF.heap s.heap
 h_:∃m,s.heap.Ns X.env.locals m/\ ∀(i:af)x v,X.N[i]? =L x->σ[i]? =L (L v)->Cz X.env.scope x-> ∃u,RelV v u/\Look X.env s.heap m x u
 cell:∀x c,X.env.cells.lookup x=L c-> ∃v,s.heap.IsCell c v
 free:H X.env.locals=ah
 jL:∀x c,X.env.cells.lookup x=L c->H c=ah
 jg:∀p∈X.pn++ai,s.heap.get? p.1=L p.2/\H p.1=ah/\p.1≠X.env.locals/\p.1∉X.fs/\ ∀v,p.2.data≠ .cell v
 bK:eG X.prog X.w H s.heap
 bG:σ.length=X.N.length
section
variable{X:Cx}{ai:ag (ak×eN)}{σ:ag (aw V)}{H H':Hp}{s:de}{h':b9}
theorem Cx.Ok.SA(ok:X.Ok)(e:X.base.get? b=L o):b∉X.fs:=λhb=>by
 have:=(ok.lq.mem hb).1;rw[e] at this;cases this
theorem Inv.bs(I:Inv X ai σ H s):∀b o,X.base.get? b=L o->s.heap.get? b=L o/\H b=ah:=λb o e=>
 ⟨I.base.keep b o (I.ok.bs b o e).1 (I.ok.bs b o e).2 (I.ok.SA e)<|I.ok.DT b o e,I.base.free b o (I.ok.bs b o e).1 (I.ok.bs b o e).2<|I.ok.DT b o e⟩
theorem Inv.bk(I:Inv X ai σ H s):∀b o,X.base.get? b=L o->s.heap.get? b=L o:=λb o e=>(I.bs b o e).1
theorem Inv.gX(I:Inv X ai σ H s):Mod X.K X.mg X.base:=I.ok.gX
theorem Inv.iE(I:Inv X ai σ H s):X.K.In s.heap:=I.ok.gX.rZ.keeps I.bk
theorem Inv.lt(I:Inv X ai σ H s):X.env.locals<s.heap.objs.size:=let⟨_,hn,_⟩:=I.h_;hn.lt
theorem Inv.sz(I:Inv X ai σ H s):X.gF.heap.objs.size<=s.heap.objs.size:=dJ I.ok.above<|B7 I.lt
theorem Inv.nofs(I:Inv X ai σ H s){a:ak}(h:s.heap.objs.size<=a):a∉X.fs:=λhb=>by
 obtain⟨_,o,ho,_⟩:=I.ok.lq.mem hb;exact absurd (gn (d_ ho)<|dJ I.sz h)<|mU _
theorem Inv.yl(I:Inv X ai σ H s):∀x c,X.env.cells.lookup x=L c->c≠X.env.locals:=λx c e z=>by
 obtain⟨v,o,ho,hd⟩:=I.cell x c e;obtain⟨m,⟨o',es,ep,nI,hd',_⟩,_⟩:=I.h_;rw[z,nI] at ho;cases ho;rw[hd'] at hd;cases hd
theorem Inv.lq(I:Inv X ai σ H s):s.heap.FunFrames X.base X.bC:=by
 have all:∀l,(∀b∈eY l,b∈X.fs)->X.gF.heap.FunFrames X.base l->s.heap.FunFrames X.base l:=by
  intro l
  induction l with
  |nil=>intro _ _;trivial
  |cons env r ih=>
   intro hs hl;obtain⟨hk,⟨cM,o,hf,hn,ho,hd⟩,hr⟩:=hl;have hL:=hs cM (by unfold eY;rw[zO,hf];exact ik);obtain⟨sl,e⟩:=I.base.jj cM o ho (I.ok.tW cM hL) hL λz=>I.ok.Au cM z hL;exact⟨hk,⟨cM,_,hf,hn,e,hd⟩,ih (λb hb=>hs b (by unfold eY;rw[zO,hf];exact gz _ hb)) hr⟩
 exact all X.bC (λ_ hb=>hb) I.ok.lq
theorem Inv.stack(I:Inv X ai σ H s):s.heap.FunFrames X.base X.stack:=by
 rcases I.ok.IL with e|⟨e,hf⟩
 ·rw[e];exact I.lq
 ·rw[e]
  obtain⟨m,hn,_⟩:=I.h_;refine .cons (by rw[I.ok.kind];decide) hf hn ?_ I.lq;exact Heap.get?_none_of_le<|dJ I.ok.rH I.ok.above
theorem Inv.BC(I:Inv X ai σ H s):∀b∈eY X.stack,b∈X.env.locals::X.fs:=λb hb=>by
 rcases I.ok.IL with e|⟨e,hf⟩
 ·rw[e] at hb;exact gz _ hb
 ·rw[e] at hb
  unfold eY at hb;rw[zO,hf] at hb;exact hb
theorem Inv.NQ(I:Inv X ai σ H s):∀b∈eY X.stack,H b=ah:=λb hb=>by
 rcases List.mem_cons.mp (I.BC b hb) with e|hb
 ·rw[e];exact I.free
 ·obtain⟨_,o,ho,_⟩:=I.ok.lq.mem hb
  exact I.base.free b o ho (I.ok.tW b hb) λz=>I.ok.Au b z hb
theorem Inv.step{ch:ag ak}(I:Inv X ai σ H s)
 (rR:∀b∈ch,(b∈X.ex\/X.gF.heap.objs.size<=b)/\b≠X.env.locals/\(∀x c,X.env.cells.lookup x=L c->c≠b)/\ ∀p∈X.pn++ai,p.1≠b)
 (keep:∀b o,b≠X.env.locals->b∉X.fs->b∉ch->s.heap.get? b=L o->H b=ah->h'.get? b=L o)
 (jj:∀b o,b≠X.env.locals->b∈X.fs->b∉ch->s.heap.get? b=L o->H b=ah-> ∃sl,h'.get? b=L {o with slots:=sl}) (free:∀b o,b∉ch->s.heap.get? b=L o->H b=ah->H' b=ah)
 (there:∀b o,b∉ch->s.heap.get? b=L o-> ∃o',h'.get? b=L o')
 (mH:∀b xs,H b=L (.tup xs)->H' b=L (.tup xs)) (lh:∀b o u,H b=L (.iP o u)->H' b=L (.iP o u)) (mF:∀b ps,H b=L (.ve ps)-> ∃more,H' b=L (.ve<|ps++more))
 (ns:∀m,s.heap.Ns X.env.locals m->h'.Ns X.env.locals m) (bK:eG X.prog X.w H' h') (hg:sQ g'):
 Inv X ai σ H' {s with heap:=h',gens:=g',drawn:=d',toks:=t'}:=by
 have Sv:∀b o,X.gF.heap.get? b=L o->b≠X.env.locals:=λb o e=>jX<|gn (d_ e) I.ok.above;have G7:∀b o,X.gF.heap.get? b=L o->b∉X.ex->b∉ch:=λb o e hx hb=>by
  rcases(rR b hb).1 with z|z
  ·exact hx z
  ·exact absurd (gn (d_ e) z)<|mU _
 have CV:∀x c,X.env.cells.lookup x=L c-> ∀v,s.heap.IsCell c v->h'.IsCell c v:=λx c e v⟨o,ho,hd⟩=>by
  have DL:=λz=>(rR c z).2.2.1 x c e J;by_cases hc:c∈X.fs
  ·obtain⟨sl,q⟩:=jj c o (I.yl x c e) hc DL ho<|I.jL x c e
   exact⟨_,q,hd⟩
  ·exact⟨o,keep c o (I.yl x c e) hc DL ho<|I.jL x c e,hd⟩
 refine⟨I.ok,I.os,hg,⟨λb o e n hb hx=>?_,λb o e n hb hx=>?_,λb o e n hx=>?_,λb o e hx=>?_,λb xs e=>mH b xs<|I.base.mH b xs e,λb o xs e=>lh b o xs<|I.base.lh b o xs e,λb ps e=>?_⟩,?_,λx c e=>?_,?_,λx c e=>?_,λp hp=>?_,bK,I.bG⟩
 ·exact keep b o (Sv b o e) hb (G7 b o e hx) (I.base.keep b o e n hb hx)<|I.base.free b o e n hx
 ·obtain⟨sl,e1⟩:=I.base.jj b o e n hb hx
  obtain⟨sl',e2⟩:=jj b _ (Sv b o e) hb (G7 b o e hx) e1<|I.base.free b o e n hx;exact⟨sl',e2⟩
 ·obtain⟨o',e1⟩:=I.base.there b o e hx
  exact free b o' (G7 b o e hx) e1<|I.base.free b o e n hx
 ·obtain⟨o',e1⟩:=I.base.there b o e hx
  exact there b o' (G7 b o e hx) e1
 ·obtain⟨m1,e1⟩:=I.base.mF b ps e
  obtain⟨m2,e2⟩:=mF b _ e1;exact⟨m1++m2,by rw[e2,Jj]⟩
 ·obtain⟨m,hn,hl⟩:=I.h_
  refine⟨m,ns m hn,λi x v e1 e2 e3=>?_⟩;obtain⟨u,r,l⟩:=hl i x v e1 e2 e3;refine⟨u,r,?_⟩;rcases l with l|⟨k,c,e,z⟩
  ·exact .inl l
  ·exact .inr ⟨k,c,e,CV x c e _ z⟩
 ·obtain⟨v,z⟩:=I.cell x c e
  exact⟨v,CV x c e v z⟩
 ·obtain⟨m,⟨o,_,_,ho,_⟩,_⟩:=I.h_
  exact free _ o (λz=>(rR _ z).2.1 J) ho I.free
 ·obtain⟨v,o,ho,hd⟩:=I.cell x c e
  exact free c o (λz=>(rR c z).2.2.1 x c e J) ho<|I.jL x c e
 ·obtain⟨e,n,ne,nf,d⟩:=I.jg p hp
  have DL:=λz=>(rR p.1 z).2.2.2 p hp J;exact⟨keep p.1 p.2 ne nf DL e n,free p.1 p.2 DL e n,ne,nf,d⟩
theorem Inv.un(I:Inv X ai σ H s)(u:Un X.fs [] H H' s.heap h')(bK:eG X.prog X.w H' h'):Inv X ai σ H' {s with heap:=h',toks:=t'}:=by
 obtain⟨m,⟨o,es,ep,ho,r⟩,_⟩:=id I.h_;obtain⟨sl,hL⟩:=u.any ho I.free<|by simp
 exact I.step (ch:=[]) (λ_ z=>nomatch z) (λb o _ hb _ e n=>u.keep b o e n hb<|by simp) (λb o _ hb _ e n=>u.jj b o e n hb<|by simp) (λb o _ e n=>u.free b o e n<|by simp) (λb o _ e=>u.there b o e<|by simp) u.mH u.lh u.mF (λm' hm=>by
  obtain⟨o',es',ep',nI,r'⟩:=hm;rw[ho] at nI;cases nI
  exact⟨_,es',ep',hL,r'⟩) bK I.eC
theorem Inv.call(I:Inv X ai σ H s)(u:Un (eY X.stack) ch H H' s.heap h')(bK:eG X.prog X.w H' h')(hg:sQ g')
 (rR:∀b∈ch,(b∈X.ex\/X.gF.heap.objs.size<=b)/\b≠X.env.locals/\(∀x c,X.env.cells.lookup x=L c->c≠b)/\ ∀p∈X.pn++ai,p.1≠b):
 Inv X ai σ H' {s with heap:=h',gens:=g',drawn:=d',toks:=t'}:=by
 obtain⟨m,⟨o,es,ep,ho,r⟩,_⟩:=id I.h_;obtain⟨sl,hL⟩:=u.any ho I.free λz=>(rR _ z).2.1 J
 exact I.step rR (λb o hL hb hc e n=>u.keep b o e n (λz=>(List.mem_cons.mp<|I.BC b z).elim hL hb) hc) (λb o _ _ hc e n=>u.any e n hc) (λb o hc e n=>u.free b o e n hc) (λb o hc e=>u.there b o e hc) u.mH u.lh u.mF (λm' hm=>by
  obtain⟨o',es',ep',nI,r'⟩:=hm;rw[ho] at nI;cases nI
  exact⟨_,es',ep',hL,r'⟩) bK hg
theorem Inv.turned(I:Inv X ai σ H s)(k:∀b o,b≠it->s.heap.get? b=L o->h'.get? b=L o)(hn:H it=ah)(hL:it≠X.env.locals)
 (h1:it∈X.ex\/X.gF.heap.objs.size<=it) (h2:∀x c,X.env.cells.lookup x=L c->c≠it) (h3:∀p∈X.pn++ai,p.1≠it):Inv X ai σ H {s with heap:=h',toks:=t'}:=by
 have wO:∀b u,H b=L u->b≠it:=λb u e z=>by rw[z,hn] at e;cases e
 refine I.step (ch:=[it]) (λb hb=>?_) (λb o _ _ hc e _=>k b o (λz=>hc<|by simp[z]) e) (λb o _ _ hc e _=>⟨o.slots,k b o (λz=>hc<|by simp[z]) e⟩) (λ_ _ _ _ n=>n)
  (λb o hc e=>⟨o,k b o (λz=>hc<|by simp[z]) e⟩) (λ_ _ e=>e) (λ_ _ _ e=>e) (λb ps e=>⟨#[],by rw[e];simp⟩) (λm hm=>?_) (λb u e=>?_) I.eC
 ·have e:=by simpa using hb
  subst e;exact⟨h1,hL,h2,h3⟩
 ·obtain⟨o,es,ep,ho,r⟩:=hm
  exact⟨o,es,ep,k _ o (dy hL) ho,r⟩
 ·refine(I.bK b u e).vd (λc v hc q=>k c v ?_ q) (λ_ q=>q) λ_ _ q=>q
  rcases hc with z|z
  ·rw[z];exact wO b u e
  ·exact wO c _ z
theorem Inv.lR(I:Inv X ai σ H s)(t:af):Inv X ai σ H {s with toks:=t}:=I.un Un.refl I.bK
theorem Inv.kept(I:Inv X ai σ H s)(k:∀b u,s.heap.get? b=L u->h'.get? b=L u):Inv X ai σ H {s with heap:=h',toks:=t'}:=I.un (Un.kept k)<|I.bK.kept k
theorem Inv.kF{a:ak}(I:Inv X ai σ H s)(k:∀b u,s.heap.get? b=L u->h'.get? b=L u)(hp:s.heap.objs.size<=a)(new:gO X.prog X.w (aC H a o) h' a o):Inv X ai σ (aC H a o) {s with heap:=h',toks:=t'}:=I.un (Un.kF k hp<|I.bK.fresh hp)<|I.bK.kF k hp new
theorem Inv.vv(I:Inv X ai σ H s)(mu:B5<|H x)(he:e=x\/H e=L (.own x))(k:∀b u,b≠e->s.heap.get? b=L u->h'.get? b=L u)(AH:∃u,h'.get? e=L u)
 (new:gO X.prog X.w (aC H x o) h' x o):Inv X ai σ (aC H x o) {s with heap:=h',toks:=t'}:=I.un (Un.vv mu he k AH)<|I.bK.vv mu he k AH new
theorem Inv.sN(I:Inv X ai σ H s)(hl:aS.length=σ.length)(w:∀(i:af)v,aS[i]? =L (L v)->σ[i]? =L (L v)):Inv X ai aS H s:=⟨I.ok,I.os,I.eC,I.base,let⟨m,hn,hl'⟩:=I.h_;⟨m,hn,λi x v e1 e2 e3=>hl' i x v e1 (w i v e2) e3⟩,I.cell,I.free,I.jL,I.jg,I.bK,hl.trans I.bG⟩
theorem Inv.TF(I:Inv X ai σ H s)(h:∀p∈pins',s.heap.get? p.1=L p.2/\H p.1=ah/\p.1≠X.env.locals/\p.1∉X.fs/\ ∀v,p.2.data≠ .cell v):Inv X pins' σ H s:=⟨I.ok,I.os,I.eC,I.base,I.h_,I.cell,I.free,I.jL,λp hp=>(List.mem_append.mp hp).elim (λz=>I.jg p<|OC _ z)<|h p,I.bK,I.bG⟩
theorem LX{N:ag ax}(hN:N.Nodup){i j:af}(a:N[i]? =L x)(b:N[j]? =L x):i=j:=by
 obtain⟨h1,e1⟩:=List.getElem?_eq_some_iff.mp a;obtain⟨h2,e2⟩:=List.getElem?_eq_some_iff.mp b;exact(Xb hN).mp<|e1.trans e2.symm
theorem VH(I:Inv X ai σ H s)(hN:X.N.Nodup)(hi:X.N[i]? =L x)(hx:Loc X.env.scope x)(r:RelV v u)
 (h:∀s',Inv X ai (σ.set i<|L v) H s'->(∃a,E8 a s.heap s'.heap/\(a=X.env.locals\/X.env.cells.lookup x=L a))->Q () s') (hf:X.fn x=ao\/X.env.scope.names.lookup x=L .local:=by first|exact .inl J|exact .inr J|assumption):b_ aJ A (VG X.env x u) Q E s:=by
 obtain⟨m,hn,hl⟩:=id I.h_;have wx:(X.env.scope.kind== .class||(X.env.scope.kind== .module&&X.env.locals !=X.env.globals))=aK:=by rw[I.ok.kind];rfl
 have Q7:i<σ.length:=by rw[I.bG];exact(List.getElem?_eq_some_iff.mp hi).1
 have yl:=I.yl;have V4:∀{a:ak}{h':b9},(∃o,s.heap.get? a=L o/\H a=ah)->E8 a s.heap h'->eG X.prog X.w H h':=λ{a h'}ha hs b ob e=>by
  obtain⟨_,_,wz⟩:=ha;refine(I.bK b ob e).vd (λc w' hc q=>(hs.2 c ?_).trans q) (λ_ q=>q) λ_ _ q=>q
  rintro rfl
  rcases hc with rfl|hc
  ·rw[wz] at e;cases e
  ·rw[wz] at hc;cases hc
 rcases hx with hk|hk
 ·refine wpAny_storeName_local hk hn (λh' mf hs=>?_) wx
  obtain⟨oL,_,_,hoL,_⟩:=id hn;refine h _ ⟨I.ok,I.os,I.eC,⟨λb o e n hb hx=>?_,λb o e n hb hx=>?_,I.base.free,λb o e hx=>?_,I.base.mH,I.base.lh,I.base.mF⟩,⟨_,mf,λj y v' e1 e2 e3=>?_⟩,λy c e=>?_,I.free,I.jL,λp hp=>?_,V4 ⟨oL,hoL,I.free⟩ hs,by simpa using I.bG⟩ ⟨_,hs,.inl J⟩
  ·exact(hs.2 b (jX<|gn (d_ e) I.ok.above)).trans<|I.base.keep b o e n hb hx
  ·obtain⟨sl,e1⟩:=I.base.jj b o e n hb hx
   exact⟨sl,(hs.2 b (jX<|gn (d_ e) I.ok.above)).trans e1⟩
  ·obtain⟨o',e1⟩:=I.base.there b o e hx
   exact⟨o',(hs.2 b (jX<|gn (d_ e) I.ok.above)).trans e1⟩
  ·by_cases hj:j=i
   ·subst hj
    rw[hi] at e1;cases e1
    rw[B0 Q7] at e2
    cases e2
    exact⟨u,r,.inl ⟨hk,by simp⟩⟩
   ·rw[zP<|dy hj] at e2
    obtain⟨u',r',q⟩:=hl j y v' e1 e2 e3;refine⟨u',r',?_⟩;rcases q with⟨k,e⟩|⟨k,c,e,z⟩
    ·refine .inl ⟨k,?_⟩
     have:y≠x:=λe=>hj (LX hN e1<|e▸hi);simp[this,e]
    ·exact .inr ⟨k,c,e,z.sameBut hs<|yl y c e⟩
  ·obtain⟨w',z⟩:=I.cell y c e
   exact⟨w',z.sameBut hs<|yl y c e⟩
  ·obtain⟨e,n,ne,nf,d⟩:=I.jg p hp
   exact⟨(hs.2 p.1 ne).trans e,n,ne,nf,d⟩
 ·have La:X.fn x=ao:=by
   rcases hf with z|z
   ·exact z
   ·rw[z] at hk;cases hk
  obtain⟨c,hc⟩:=I.ok.t_ x<|.inl hk;obtain⟨w',z⟩:=I.cell x c hc;refine wpAny_storeName_cell I.ok.kind hk hc z λh' QY hs=>?_;obtain⟨oc,hoc,hocd⟩:=id z;refine h {s with heap:=h'} ⟨I.ok,I.os,I.eC,⟨λb o e n hb hx=>?_,λb o e n hb hx=>?_,I.base.free,λb o e hx=>?_,I.base.mH,I.base.lh,I.base.mF⟩,⟨m,hn.sameBut hs (dy<|yl x c hc),λj y v' e1 e2 e3=>?_⟩,λy c' e=>?_,I.free,I.jL,λp hp=>?_,V4 ⟨oc,hoc,I.jL x c hc⟩ hs,by simpa using I.bG⟩ ⟨c,hs,.inr hc⟩
  ·exact(hs.2 b<|jX (gn (d_ e)<|I.ok.CO x c La hc)).trans<|I.base.keep b o e n hb hx
  ·obtain⟨sl,e1⟩:=I.base.jj b o e n hb hx
   exact⟨sl,(hs.2 b<|jX (gn (d_ e)<|I.ok.CO x c La hc)).trans e1⟩
  ·obtain⟨o',e1⟩:=I.base.there b o e hx
   exact⟨o',(hs.2 b<|jX (gn (d_ e)<|I.ok.CO x c La hc)).trans e1⟩
  ·by_cases hj:j=i
   ·subst hj
    rw[hi] at e1;cases e1
    rw[B0 Q7] at e2
    cases e2
    exact⟨u,r,.inr ⟨.inl hk,c,hc,QY⟩⟩
   ·rw[zP<|dy hj] at e2
    obtain⟨u',r',q⟩:=hl j y v' e1 e2 e3;refine⟨u',r',?_⟩;rcases q with q|⟨k,c',e,z'⟩
    ·exact .inl q
    ·refine .inr ⟨k,c',e,z'.sameBut hs ?_⟩
     rintro rfl
     exact hj (LX hN e1<|I.ok.inj _ _ _ e hc▸hi)
  ·by_cases Dg:c'=c
   ·subst Dg;exact⟨_,QY⟩
   ·obtain⟨w2,z2⟩:=I.cell y c' e
    exact⟨w2,z2.sameBut hs Dg⟩
  ·obtain⟨e,n,ne,nf,d⟩:=I.jg p hp
   refine⟨(hs.2 p.1 ?_).trans e,n,ne,nf,d⟩;intro q;rw[q,hoc] at e;have q':=mV e;exact d w' (by rw[<-q'];exact hocd)
theorem NR(I:Inv X ai σ H s)(hN:X.N.Nodup)(hi:X.N[i]? =L x)(hx:Loc X.env.scope x)(r:RelV v u)
 (h:∀s',Inv X ai (σ.set i<|L v) H s'->Q () s') (hf:X.fn x=ao\/X.env.scope.names.lookup x=L .local:=by first|exact .inl J|exact .inr J|assumption):b_ aJ A (VG X.env x u) Q E s:=VH I hN hi hx r (λs' I' _=>h s' I') hf
theorem Inv.P6(I:Inv X ai σ H s)(ho:s'.os=s.os)(u:Un (eY X.stack) ch H H' s.heap s'.heap)(bK:eG X.prog X.w H' s'.heap)(hg:sQ s'.gens)
 (rR:∀b∈ch,(b∈X.ex\/X.gF.heap.objs.size<=b)/\b≠X.env.locals/\(∀x c,X.env.cells.lookup x=L c->c≠b)/\ ∀p∈X.pn++ai,p.1≠b):Inv X ai σ H' s':=by
 obtain⟨h',g',d',t',o'⟩:=s';have e:=ho;subst e;exact I.call u bK hg rR
end
abbrev XK:=aE->aw ak->Hp->Prop
abbrev St:=ag<|aw V
abbrev VK:=V->Hp->Prop
abbrev TE:=St->Hp->VK->Prop
abbrev TT:=St->Hp->(c_->Hp->Prop)->Prop
abbrev TA:=St->Hp->(ag V->Hp->Prop)->Prop
structure Ends where
 nx:St->Hp->Prop
 rt:VK
 bk:St->Hp->Prop:=λ_ _=>eW
 ct:St->Hp->Prop:=λ_ _=>eW
abbrev TS:=Ends->St->Hp->Prop
def EP(X:Cx)(ai:ag<|ak×eN)(σ:St)(Q:VK)(u:aE)(s':de):Prop:=∃v H',Inv X ai σ H' s'/\RelV v u/\Q v H'
def TP(X:Cx)(ai:ag<|ak×eN)(σ:St)(Q:c_->Hp->Prop)(b:c_)(s':de):Prop:=∃H',Inv X ai σ H' s'/\Q b H'
def AP(X:Cx)(ai:ag<|ak×eN)(σ:St)(Q:ag V->Hp->Prop)(us:ag aE)(s':de):Prop:=∃vs H',Inv X ai σ H' s'/\cI vs us/\Q vs H'
def SP(X:Cx)(ai:ag<|ak×eN)(D:Ends)(f:Flow)(s':de):Prop:=match f with
 | .next=>∃aS H',Inv X ai aS H' s'/\D.nx aS H'
 | .brk=>∃aS H',Inv X ai aS H' s'/\D.bk aS H'
 | .cont=>∃aS H',Inv X ai aS H' s'/\D.ct aS H'
 | .ret u=>∃v aS H',Inv X ai aS H' s'/\RelV v u/\D.rt v H'
def PE(X:Cx)(e:Expr)(t:TE):Prop:=∀ai s(σ:St)H Q,Inv X ai σ H s->t σ H Q->b_ (bX X.prog X.w) X.A (da e X.env) (EP X ai σ Q) X.xe s
def PT(X:Cx)(e:Expr)(t:TT):Prop:=∀ai s(σ:St)H Q,Inv X ai σ H s->t σ H Q->b_ (bX X.prog X.w) X.A (GJ e X.env<|da e X.env) (TP X ai σ Q) X.xe s
def PW(X:Cx)(e:Expr)(t:TT):Prop:=∀whole ai s(σ:St)H Q,Inv X ai σ H s->t σ H Q->b_ (bX X.prog X.w) X.A (GJ e X.env whole) (TP X ai σ Q) X.xe s
theorem PW.pt(h:PW X e t):PT X e t:=h _
def PA(X:Cx)(es:ag Expr)(t:TA):Prop:=∀pos ai s(σ:St)H Q,Inv X ai σ H s->t σ H Q->b_ (bX X.prog X.w) X.A (spliced (jr pos<|dq es X.env)) (AP X ai σ Q) X.xe s
def PS(X:Cx)(st:dr)(t:TS):Prop:=∀ai s(σ:St)H D,Inv X ai σ H s->t D σ H->b_ (bX X.prog X.w) X.A (exec st X.env) (SP X ai D) X.xe s
def iX(X:Cx)(st:ag dr)(t:TS):Prop:=∀ai s(σ:St)H D,Inv X ai σ H s->t D σ H->b_ (bX X.prog X.w) X.A (execs st X.env) (SP X ai D) X.xe s
theorem cj{t:Sem α}{Q Q':α->de->Prop}(h:b_ aJ A t Q E s)(hQ:∀a s,Q a s->Q' a s):b_ aJ A t Q' E s:=kO h hQ λ_ _ x=>x
end L2
namespace L2
open PySem PySem.Spec PyProof.Rows
section
variable{X:Cx}
def au(i:af):TE:=λσ H Q=>∃v,σ[i]? =L (L v)/\Q v H
def tC(v:V):TE:=λ_ H Q=>Q v H
theorem pe_var{pos:gP}(hN:X.N[i]? =L x)(hv:Cz X.env.scope x)(hd:(x=="__debug__")=aK:=by decide)(me:(x=="__classdict__")=aK:=by decide):PE X (.Name x pos)<|au i:=by
 intro ai s σ H Q I h;obtain⟨v,e,h⟩:=h;obtain⟨m,hn,hl⟩:=I.h_;obtain⟨u,r,l⟩:=hl i x v hN e hv;have dj:EP X ai σ Q u s:=⟨v,H,I,r,h⟩;rcases l with⟨hk,hm⟩|⟨hk,c,hc,hcell⟩
 ·exact Wn (wpAny_loadName_local I.ok.kind hk hn hm dj) hd
 ·rcases hk with hk|hk
  ·exact Wn (wpAny_loadName_cell I.ok.kind hk hc hcell dj) hd
  ·exact Wn (wpAny_loadName_free I.ok.kind hk hc hcell dj me) hd
theorem a_:PE X (.Constant (.int i) j pos) (tC<|.int i):=λ_ _ _ H _ I h=>wpAny_Constant_int ⟨.int i,H,I.lR _,⟨_,J⟩,h⟩
theorem pe_bl:PE X (.Constant (.bool b) j pos) (tC<|.bl b):=λ_ _ _ H _ I h=>Constant_bool ⟨.bl b,H,I,J,h⟩
theorem nV:PE X (.Constant .none j pos)<|tC .cE:=λ_ _ _ H _ I h=>Constant_none ⟨.cE,H,I,J,h⟩
def Gl(X:Cx)(x:ax):Prop:=X.env.kindOf x=L .globalImplicit
theorem yN{σ:St}(I:Inv X ai σ H s)(hg:Gl X x)(hm:X.mg x=L u)(h:Q u s)
 (hd:(x=="__debug__")=aK:=by decide):b_ (bX X.prog X.w) X.A (da (.Name x pos) X.env) Q E s:=WB I.ok.kind hg (Calls.loadGlobal_global (by rw[I.ok.tX];exact I.gX.tX.keeps I.bk) hm h) hd
theorem DD{E:aE->de->Prop}{σ:St}{pos:gP}(I:Inv X ai σ H s)(hg:Gl X x)(hm:X.mg x=ah)(hv:CL x=L u)(h:Q u s)
 (hn:x≠"__name__":=by decide) (hd:(x=="__debug__")=aK:=by decide):b_ (bX X.prog X.w) X.A (da (.Name x pos) X.env) Q E s:=by
 obtain⟨mb,h1,h2⟩:=I.gX.An;exact WB I.ok.kind hg (Calls.loadGlobal_builtin (by rw[I.ok.tX];exact I.gX.tX.keeps I.bk) hm (by rw[I.ok.An];exact h1.keeps I.bk) ((h2 x hn).trans hv) h) hd
theorem dF(hg:Gl X x)(hm:X.mg x=L u)(r:RelV v u)(hd:(x=="__debug__")=aK:=by decide):PE X (.Name x pos)<|tC v:=λ_ _ _ H _ I h=>yN I hg hm ⟨v,H,I,r,h⟩ hd
variable{a b:Expr}{ta tb:TE}{pos:gP}
def PC(X:Cx)(op:CmpOp)(a b:Expr)(t:TE):Prop:=∀ai s(σ:St)H Q,Inv X ai σ H s->t σ H Q->b_ (bX X.prog X.w) X.A (da a X.env) (λv eM=>b_ (bX X.prog X.w) X.A (da b X.env) (λu jT=>b_ (bX X.prog X.w) X.A (nz op v u) (EP X ai σ Q) X.xe jT) X.xe eM) X.xe s
def tB(t:TE):TT:=λσ H Q=>t σ H λx U=>∃c,x= .bl c/\Q c U
theorem pt_cmp(h:PC X op a b t)(h1:behindInMarks op b=aK:=by first|exact nobehind _ dc dc|rfl):PT X (.Compare a [op] [b] pos)<|tB t:=by
 intro ai s σ H Q I hw;refine wpAny_isTrue_Compare1 (cj (h ai s σ H _ I hw) λv s1 h1=>cj h1 λu s2 h2=>cj h2 λc s3⟨x,U,I1,r1,q1⟩=>?_) h1;obtain⟨d,rfl,q⟩:=q1
 cases r1
 exact BL ⟨U,I1,q⟩
theorem iT(h:PE X e t)(he:∀whole,GJ e X.env whole=(do let v<-whole;IJ e.pos;AM [v] (truthy v)):=by intro _;rfl):PT X e<|tB t:=by
 intro ai s σ H Q I hw;refine isTrue_plain (cj (h ai s σ H _ I hw) λv s1⟨x,U,I1,r1,q1⟩=>?_)<|he _;obtain⟨d,rfl,q⟩:=q1
 cases r1
 exact BL ⟨U,I1,q⟩
variable{tA IQ:TT}{rest:ag Expr}
def tAnd(t u:TT):TT:=λσ H Q=>t σ H λc U=>if c=ao then u σ U Q else Q aK U
def NZ(t u:TT):TT:=λσ H Q=>t σ H λc U=>if c=ao then Q ao U else u σ U Q
def VW(t:TT):TT:=λσ H Q=>t σ H λc U=>Q (!c) U
theorem pw_and1(ha:PT X a tA):PW X (.BoolOp .And [a] pos) tA:=by
 intro wh ai s σ H Q I h;refine isTrue_and (cj (ha ai s σ H Q I h) λc s1 e=>?_)
 cases c with
 |true=>exact isTrue_and_nil e
 |false=>exact e
theorem uM(ha:PT X a tA):PW X (.BoolOp .Or [a] pos) tA:=by
 intro wh ai s σ H Q I h;refine isTrue_or (cj (ha ai s σ H Q I h) λc s1 e=>?_)
 cases c with
 |false=>exact isTrue_or_nil e
 |true=>exact e
theorem pw_and(ha:PT X a tA)(hb:PW X (.BoolOp .And (b::rest) pos) IQ):PW X (.BoolOp .And (a::b::rest) pos)<|tAnd tA IQ:=by
 intro wh ai s σ H Q I h;refine isTrue_and (cj (ha ai s σ H _ I h) λc s1⟨U,I1,q1⟩=>?_)
 cases c with
 |true=>exact hb wh ai s1 σ U Q I1 q1
 |false=>exact⟨U,I1,q1⟩
theorem pV(ha:PT X a tA)(hb:PW X (.BoolOp .Or (b::rest) pos) IQ):PW X (.BoolOp .Or (a::b::rest) pos)<|NZ tA IQ:=by
 intro wh ai s σ H Q I h;refine isTrue_or (cj (ha ai s σ H _ I h) λc s1⟨U,I1,q1⟩=>?_)
 cases c with
 |true=>exact⟨U,I1,q1⟩
 |false=>exact hb wh ai s1 σ U Q I1 q1
theorem uL(ha:PT X a tA):PT X (.UnaryOp .Not a pos)<|VW tA:=by
 intro ai s σ H Q I h;exact isTrue_not<|ha ai s σ H (λc U=>Q _ U) I h
def VS(ta tb:TE):TE:=λσ H Q=>ta σ H λx U=>∃c,x= .bl c/\if c=ao then tb σ U Q else Q (.bl aK) U
def VY(ta tb:TE):TE:=λσ H Q=>ta σ H λx U=>∃c,x= .bl c/\if c=ao then Q (.bl ao) U else tb σ U Q
def VX(ta:TE):TE:=λσ H Q=>ta σ H λx U=>∃c,x= .bl c/\Q (.bl<|!c) U
theorem sD(h:PE X a t):PE X (.BoolOp op [a] pos) t:=λai s σ H Q I hw=>BoolOp_one<|h ai s σ H Q I hw
theorem xf(ha:PE X a ta)(hb:PE X (.BoolOp .And (b::rest) pos) tb):PE X (.BoolOp .And (a::b::rest) pos)<|VS ta tb:=by
 intro ai s σ H Q I h;refine BoolOp_and (cj (ha ai s σ H _ I h) λv s1⟨x,U,I1,r1,q1⟩=>?_);obtain⟨c,rfl,q1⟩:=q1
 cases r1
 refine BL ?_
 cases c with
 |true=>exact hb ai s1 σ U Q I1 q1
 |false=>exact⟨.bl aK,U,I1,J,q1⟩
theorem Ml(ha:PE X a ta)(hb:PE X (.BoolOp .Or (b::rest) pos) tb):PE X (.BoolOp .Or (a::b::rest) pos)<|VY ta tb:=by
 intro ai s σ H Q I h;refine BoolOp_or (cj (ha ai s σ H _ I h) λv s1⟨x,U,I1,r1,q1⟩=>?_);obtain⟨c,rfl,q1⟩:=q1
 cases r1
 refine BL ?_
 cases c with
 |false=>exact hb ai s1 σ U Q I1 q1
 |true=>exact⟨.bl ao,U,I1,J,q1⟩
theorem Tv(ha:PE X a ta):PE X (.UnaryOp .Not a pos)<|VX ta:=by
 intro ai s σ H Q I h;refine UnaryOp_ (cj (ha ai s σ H _ I h) λv s1⟨x,U,I1,r1,q1⟩=>?_);obtain⟨c,rfl,q1⟩:=q1
 cases r1
 exact not_of<|BL ⟨.bl _,U,I1,J,q1⟩
def NX(t:TT)(ta tb:TE):TE:=λσ H Q=>t σ H λc U=>if c=ao then ta σ U Q else tb σ U Q
theorem mw(hc:PT X c tA)(ha:PE X a ta)(hb:PE X b tb):PE X (.IfExp c a b pos)<|NX tA ta tb:=by
 intro ai s σ H Q I h;refine wpAny_IfExp (cj (hc ai s σ H _ I h) λd s1⟨U,I1,q1⟩=>?_)
 cases d with
 |true=>exact ha ai s1 σ U Q I1 q1
 |false=>exact hb ai s1 σ U Q I1 q1
end
end L2
namespace L2
open PySem PySem.Spec PyProof.Rows
def SqL(K:aq)(H:Hp)(a:ak)(xs:ag V):Prop:=Rd H a (.lst xs)\/ ∃(o:eN)(aZ:jC aE)(n:af),K.lookup a=L o/\o.cls= .type "list"/\o.dict=ah/\o.data= .seq aZ n/\aZ.size<=bH/\cI xs aZ.toList
def cD(K:aq)(H:Hp)(a:ak)(xs:ag V):Prop:=Rd H a (.tup xs)\/ ∃(o:eN)(aZ:jC aE)(n:af),K.lookup a=L o/\o.cls= .type "tuple"/\o.data= .seq aZ n/\aZ.size<=bH/\cI xs aZ.toList
def Yd:aE->aw V
 | .none=>L .cE
 | .bool b=>L<|.bl b
 | .int i _=>L<|.int i
 | .str x _=>L<|.str x
 | .bytes b _=>L<|.ny b
 | .float b _=>L<|.Gh b
 | .ref a=>L<|.ref a
 | .type n=>L<|.ty n
 |_=>ah
theorem RelV.yg(r:RelV x u):Yd u=L x:=by
 cases x with
 |cE=>cases r;rfl
 |bl _=>cases r;rfl
 |int _=>obtain⟨t,rfl⟩:=r;rfl
 |str _=>obtain⟨t,rfl⟩:=r;rfl
 |ny _=>obtain⟨t,rfl⟩:=r;rfl
 |Gh _=>obtain⟨t,rfl⟩:=r;rfl
 |ref _=>cases r;rfl
 |ty _=>cases r;rfl
theorem RelV.inj(r:RelV x u)(q:RelV y u):x=y:=mV<|r.yg.symm.trans q.yg
theorem cI.inj:∀{xs ys:ag V}{us:ag aE},cI xs us->cI ys us->xs=ys
 |_,_,_,.nil,.nil=>rfl
 |_,_,_,.cons r t,.cons r' t'=>by rw[r.inj r',cI.inj t t']
section
variable{X:Cx}{ai:ag (ak×eN)}{σ:St}{H:Hp}{s:de}{a:ak}{xs ys:ag V}
theorem SqL.of{K:aq}(h:H a=L (.lst xs)):SqL K H a xs:=.inl<|.inl h
theorem cD.of{K:aq}(h:H a=L (.tup xs)):cD K H a xs:=.inl<|.inl h
theorem Inv.list(I:Inv X ai σ H s)(h:SqL X.K H a xs):∃aZ,cI xs aZ/\PlainL s.heap a aZ.toArray/\xs.length<=bH:=by
 rcases h with h|⟨o,aZ,n,hk,hc,hd,hs,hz,r⟩
 ·obtain⟨z,aZ,n,r,e⟩:=h.ok I.bK
  exact⟨aZ,r,⟨_,n,e,J,J,J⟩,z⟩
 ·refine⟨aZ.toList,r,⟨o,n,I.iE a o hk,hc,hd,by simpa using hs⟩,?_⟩
  have e:=r.length;simp[Ob] at e;omega
theorem Inv.tuple(I:Inv X ai σ H s)(h:cD X.K H a xs):∃aZ,cI xs aZ/\IsTup s.heap a aZ.toArray/\xs.length<=bH:=by
 rcases h with h|⟨o,aZ,n,hk,hc,hs,hz,r⟩
 ·obtain⟨z,aZ,r,p⟩:=h.ok I.bK
  exact⟨aZ,r,p,z⟩
 ·refine⟨aZ.toList,r,⟨o,I.iE a o hk,hc,n,by simpa using hs⟩,?_⟩
  have e:=r.length;simp[Ob] at e;omega
theorem Inv.GS(I:Inv X ai σ H s)(h:SqL X.K H a xs)(h':SqL X.K H a ys):xs=ys:=by
 obtain⟨aZ,r,⟨o,n,e,_,_,d⟩,_⟩:=I.list h;obtain⟨rY,r',⟨o',n',e',_,_,d'⟩,_⟩:=I.list h';rw[e] at e';cases e'
 rw[d] at d';injection d' with d1 _
 have:=by simpa using gH Oc d1
 subst this;exact r.inj r'
theorem Inv.tuple_inj(I:Inv X ai σ H s)(h:cD X.K H a xs)(h':cD X.K H a ys):xs=ys:=by
 obtain⟨aZ,r,⟨o,e,_,n,d⟩,_⟩:=I.tuple h;obtain⟨rY,r',⟨o',e',_,n',d'⟩,_⟩:=I.tuple h';rw[e] at e';cases e'
 rw[d] at d';injection d' with d1 _
 have:=by simpa using gH Oc d1
 subst this;exact r.inj r'
end
abbrev Cx.sO(X:Cx)(E:aE->de->Prop):Cx:={X with xe:=E}
abbrev Cx.Ha(X:Cx):Cx:=X.sO λ_ _=>eW
theorem Cx.Ok.sO{X:Cx}(ok:X.Ok)(E:aE->de->Prop):(X.sO E).Ok:=⟨ok.gX,ok.kind,ok.tX,ok.An,ok.above,ok.inj,ok.t_,ok.CO,ok.hd,ok.frames,ok.IL,ok.As,ok.bs,ok.rH,ok.DT,ok.Au,ok.lq,ok.tW⟩
theorem Cx.Ok.xB{X:Cx}(ok:(X.sO E).Ok):X.Ok:=⟨ok.gX,ok.kind,ok.tX,ok.An,ok.above,ok.inj,ok.t_,ok.CO,ok.hd,ok.frames,ok.IL,ok.As,ok.bs,ok.rH,ok.DT,ok.Au,ok.lq,ok.tW⟩
section
variable{X:Cx}{ai:ag (ak×eN)}{σ:St}{H:Hp}{s:de}{E:aE->de->Prop}
theorem Inv.sO(I:Inv X ai σ H s)(E:aE->de->Prop):Inv (X.sO E) ai σ H s:=⟨I.ok.sO E,I.os,I.eC,I.base,I.h_,I.cell,I.free,I.jL,I.jg,I.bK,I.bG⟩
theorem Inv.xB(I:Inv (X.sO E) ai σ H s):Inv X ai σ H s:=⟨I.ok.xB,I.os,I.eC,I.base,I.h_,I.cell,I.free,I.jL,I.jg,I.bK,I.bG⟩
theorem SP.xB(h:SP (X.sO E) ai D f s'):SP X ai D f s':=by
 cases f with
 |next=>obtain⟨aS,H',I,q⟩:=h;exact⟨aS,H',I.xB,q⟩
 |brk=>obtain⟨aS,H',I,q⟩:=h;exact⟨aS,H',I.xB,q⟩
 |cont=>obtain⟨aS,H',I,q⟩:=h;exact⟨aS,H',I.xB,q⟩
 |ret u=>obtain⟨v,aS,H',I,r,q⟩:=h;exact⟨v,aS,H',I.xB,r,q⟩
theorem iX.Ha{st:ag dr}(h:iX X.Ha st t):iX X st t:=λai s σ H D I hw=>
 kO (h ai s σ H D (I.sO _) hw) (λ_ _ q=>q.xB) λ_ _ z=>g_ z
end
section
variable{X:Cx}{st:dr}{rest:ag dr}{t u:TS}{e:Expr}{te:TE}{pos:gP}
def IT:TS:=λD σ H=>D.nx σ H
def oS(t u:TS):TS:=λD σ H=>t {D with nx:=u D} σ H
theorem d5:iX X [] IT:=λ_ _ σ H _ I h=>Jf ⟨σ,H,I,h⟩
theorem aG(h1:PS X st t)(h2:iX X rest u):iX X (st::rest)<|oS t u:=by
 intro ai s σ H D I h;refine wpAny_execs_cons (cj (h1 ai s σ H {D with nx:=u D} I h) λf s1 q=>?_)
 cases f with
 |next=>
  obtain⟨aS,H',I',q⟩:=q;exact h2 ai s1 aS H' D I' q
 |ret v=>exact q
 |brk=>exact q
 |cont=>exact q
theorem aR(h1:PS X st t):iX X [st] t:=by
 intro ai s σ H D I h;refine wpAny_execs_cons (cj (h1 ai s σ H D I h) λf s1 q=>?_)
 cases f with
 |next=>exact Jf q
 |ret v=>exact q
 |brk=>exact q
 |cont=>exact q
def tBreak:TS:=λD σ H=>D.bk σ H
theorem ps_break:PS X (.Break pos) tBreak:=λ_ _ σ H _ I h=>wpAny_Break ⟨σ,H,I,h⟩
theorem Inv.quiet{σ:St}(I:Inv X ai σ H s):interactive X.env=aK:=by simp[interactive,I.ok.kind]
def VU(te:TE):TS:=λD σ H=>te σ H λ_ U=>D.nx σ U
theorem pU(he:PE X e te)(hs:zD e ah pos.line X.env=pure aK:=by rfl):PS X (.Expr e pos)<|VU te:=by
 intro ai s σ H D I h;exact wpAny_Expr_any (cj (he ai s σ H _ I h) λv s1⟨x,U,I1,r1,q1⟩=>⟨σ,U,I1,q1⟩) I.quiet hs
def VZ(te:TE):TS:=λD σ H=>te σ H D.rt
theorem bg(he:PE X e te):PS X (.Return (L e) pos)<|VZ te:=by
 intro ai s σ H D I h;exact wpAny_Return_some (cj (he ai s σ H _ I h) λv s1⟨x,U,I1,r1,q1⟩=>⟨x,σ,U,I1,r1,q1⟩)
def zE(c:TT)(t u:TS):TS:=λD σ H=>c σ H λb U=>if b=ao then t D σ U else u D σ U
theorem dU(hc:PT X c tc)(ha:iX X a t)(hb:iX X b u):PS X (.If c a b pos)<|zE tc t u:=by
 intro ai s σ H D I h;refine wpAny_If (cj (hc ai s σ H _ I h) λd s1⟨U,I1,q1⟩=>?_)
 cases d with
 |true=>exact ha ai s1 σ U D I1 q1
 |false=>exact hb ai s1 σ U D I1 q1
end
abbrev TG:=V->St->Hp->(St->Hp->Prop)->Prop
abbrev Cu:=ag V->St->Hp->(St->Hp->Prop)->Prop
def PG(X:Cx)(IV:Expr)(t:TG):Prop:=∀ai s(σ:St)H v u Q,Inv X ai σ H s->RelV v u->t v σ H Q->b_ (bX X.prog X.w) X.A (FI IV X.env u) (λ_ s'=>∃aS H',Inv X ai aS H' s'/\Q aS H') X.xe s
def Fp(X:Cx)(ts:ag Expr)(t:Cu):Prop:=∀ai s(σ:St)H vs us Q,Inv X ai σ H s->cI vs us->t vs σ H Q->b_ (bX X.prog X.w) X.A (assignInOrder ((CD ts X.env).map (·.2)) us) (λ_ s'=>∃aS H',Inv X ai aS H' s'/\Q aS H') X.xe s
abbrev Px:=V->V->V->Hp->(Hp->Prop)->Prop
def OR(X:Cx)(t:Px):Prop:=∀ai s(σ:St)H o i v ov iv u Q,Inv X ai σ H s->RelV o ov->RelV i iv->RelV v u->t o i v H Q->b_ (bX X.prog X.w) X.A (setItem ov iv u) (λ_ s'=>∃H',Inv X ai σ H' s'/\Q H') X.xe s
abbrev Pw:=V->V->Hp->VK->Prop
def Xz(X:Cx)(op:Operator)(t:Pw):Prop:=∀ai s(σ:St)H x y v u Q,Inv X ai σ H s->RelV x v->RelV y u->t x y H Q->b_ (bX X.prog X.w) X.A (GH op v u) (EP X ai σ Q) X.xe s
section
variable{X:Cx}{pos:gP}
def eE(i:af):TG:=λv σ H Q=>Q (σ.set i<|L v) H
theorem pg_name(hN:X.N.Nodup)(hi:X.N[i]? =L x)(hx:Loc X.env.scope x)(hf:X.fn x=ao\/X.env.scope.names.lookup x=L .local:=by first|exact .inl J|exact .inr J|assumption):PG X (.Name x pos)<|eE i:=by
 intro ai s σ H v u Q I r h;exact wpAny_assign_Name<|NR I hN hi hx r (λs' I'=>⟨_,H,I',h⟩) hf
def QL:Cu:=λvs σ H Q=>vs=[]/\Q σ H
def KP(t:TG)(u:Cu):Cu:=λvs σ H Q=>∃v r,vs=v::r/\t v σ H λaS H'=>u r aS H' Q
theorem Bi:Fp X [] QL:=by
 intro ai s σ H vs us Q I r h;obtain⟨e,h⟩:=h;subst e;exact assignInOrder_nil ⟨σ,H,I,h⟩
theorem pR(h1:PG X e t)(h2:Fp X es u)
 (hs:(CD (e::es) X.env).map (·.2)=FI e X.env::(CD es X.env).map (·.2):=by rfl):Fp X (e::es)<|KP t u:=by
 intro ai s σ H vs us Q I r h;obtain⟨v,vr,e1,h⟩:=h;subst e1
 cases r with
 |cons r rr=>
  rw[hs];refine assignInOrder_cons (cj (h1 ai s σ H _ _ _ I r h) λ_ s1⟨BO,U,I1,q1⟩=>?_);exact h2 ai s1 BO U _ _ Q I1 rr q1
def QM(K:aq)(n:af)(t:Cu):TG:=λv σ H Q=>∃a xs,v= .ref a/\cD K H a xs/\xs.length=n/\t xs σ H Q
theorem Bh{k:af}(hc:X.j6=ao)(h:Fp X es t)
 (hn:(CD es X.env).length=n:=by rfl) (fF:(CD es X.env).findIdx? (·.1)=ah:=by rfl):PG X (.Tuple es k pos)<|QM X.K n t:=by
 intro ai s σ H v u Q I r hw;obtain⟨a,xs,e1,hq,hl,hw⟩:=hw;subst e1
 cases r
 obtain⟨aZ,rv,ht,hz⟩:=I.tuple hq;refine assign_Tuple_tuple (I.ok.hd hc) ht (by simp[hn,<-hl,rv.length]) fF λh' hx=>?_;have I1:=I.kept (t':=s.toks) λb o e=>hx b o (jX<|d_ e) e;exact h ai _ σ H xs _ Q I1 (by simpa using rv) hw
def yw(to ti:TE)(t:Px):TG:=λv σ H Q=>to σ H λo U=>ti σ U λi H2=>t o i v H2 λH3=>Q σ H3
theorem zf(ho:PE X o to)(hi:PE X i ti)(hs:OR X t)
 (ha:∀v,FI (.Subscript o i pos) X.env v=(do
   let ov<-AM [v] (da o X.env);let iv<-AM [v,ov] (da i X.env)
   IJ pos
   AM [v,ov,iv] (setItem ov iv v)
   release [v,ov,iv] []):=by intro _;rfl):PG X (.Subscript o i pos)<|yw to ti t:=by
 intro ai s σ H v u Q I r h;refine dh<|N8 (cj (ho ai s σ H _ I h) λov s1⟨x,U,I1,r1,q1⟩=>?_);refine dh<|N8 (cj (hi ai s1 σ U _ I1 q1) λiv s2⟨y,H2,I2,r2,q2⟩=>?_);refine dh<|Wo (dh<|N8 (cj (hs ai s2 σ H2 x y v ov iv u _ I2 r1 r2 r q2) λ_ s3⟨H3,I3,q3⟩=>?_));exact wpAny_release ⟨σ,H3,I3,q3⟩
def jU(te:TE)(g:TG):TS:=λD σ H=>te σ H λx U=>g x σ U D.nx
theorem zi(he:PE X e te)(hg:PG X tg g)(hs:swapsWithSole [tg] e pos.line X.env=pure aK:=by rfl)(hw:swappedStores [tg] e X.env=pure ah:=by rfl)
 (h1:(CD [tg] X.env).map (·.2)=[FI tg X.env]:=by rfl):PS X (.Assign [tg] e pos)<|jU te g:=by
 intro ai s σ H D I h;refine wpAny_Assign_stores (cj (he ai s σ H _ I h) λv s1⟨x,U,I1,r1,q1⟩=>?_) hs hw;rw[h1];exact cj (hg ai s1 σ U x v _ I1 r1 q1) λ_ s2 q=>q
theorem ps_set(hN:X.N.Nodup)(hi:X.N[i]? =L x)(hx:Loc X.env.scope x)(he:PE X e te)(hs:zD e (L<|.Name x oJ) pos.line X.env=pure aK:=by rfl)(hf:X.fn x=ao\/X.env.scope.names.lookup x=L .local:=by first|exact .inl J|exact .inr J|assumption):PS X (.Assign [.Name x oJ] e pos) (jU te<|eE i):=by
 intro ai s σ H D I h;refine wpAny_Assign_Name (cj (he ai s σ H _ I h) λv s1⟨y,U,I1,r1,q1⟩=>?_) hs;exact NR I1 hN hi hx r1 (λs2 I2=>⟨_,U,I2,q1⟩) hf
def tAug(i:af)(te:TE)(ti:Pw):TS:=λD σ H=>∃x,σ[i]? =L (L x)/\te σ H λy U=>ti x y U λz H2=>D.nx (σ.set i<|L z) H2
theorem TQ(hN:X.N.Nodup)(hi:X.N[i]? =L x)(hx:Loc X.env.scope x)(he:PE X e te)(ho:Xz X op ti)(hf:X.fn x=ao\/X.env.scope.names.lookup x=L .local:=by first|exact .inl J|exact .inr J|assumption):PS X (.AugAssign (.Name x oJ) op e pos)<|tAug i te ti:=by
 intro ai s σ H D I h;obtain⟨v,e1,h⟩:=h;obtain⟨m,hn,hl⟩:=I.h_;have vis:Cz X.env.scope x:=by rcases hx with k|k;exact .inl k;exact .inr<|.inl k
 obtain⟨u,r,l⟩:=hl i x v hi e1 vis;refine wpAny_AugAssign_Name ?_;have go:b_ (bX X.prog X.w) X.A (da e X.env) (λw jT=>b_ (bX X.prog X.w) X.A (GH op u w) (λr xw=>b_ (bX X.prog X.w) X.A (VG X.env x r) (λ_=>SP X ai D .next) X.xe xw) X.xe jT) X.xe s:=by
  refine cj (he ai s σ H _ I h) λw s1⟨y,U,I1,r1,q1⟩=>?_;refine cj (ho ai s1 σ U v y u w _ I1 r r1 q1) λz s2⟨zv,H2,I2,r2,q2⟩=>?_;exact NR I2 hN hi hx r2 (λs3 I3=>⟨_,H2,I3,q2⟩) hf
 rcases l with⟨hk,hm⟩|⟨hk,c,hc,hcell⟩
 ·exact wpAny_loadName_local I.ok.kind hk hn hm go
 ·rcases hk with hk|hk
  ·exact wpAny_loadName_cell I.ok.kind hk hc hcell go
  ·rcases hx with k|k
   ·have:X.env.scope.names.lookup x=L .free:=hk
    rw[k] at this;cases this
   ·have:X.env.scope.names.lookup x=L .free:=hk
    rw[k] at this;cases this
end
section
variable{X:Cx}{pos:gP}
def N0(c:TT)(tb:TS):TS:=λD σ H=>∃W:af->St->Hp->Prop,(∃m,W m σ H)/\ ∀m σ H,W m σ H->c σ H λb U=>if b=ao then∃N,(∀aS H',N aS H'-> ∃m',m'<m/\W m' aS H')/\tb {D with nx:=N,ct:=N,bk:=D.nx} σ U else D.nx σ U
theorem Ms(hp:JT (bX X.prog X.w) X.A X.env X.xe)(hc:PT X c tc)(hb:iX X body tb):PS X (.While c body [] pos)<|N0 tc tb:=by
 intro ai s σ H D I h;obtain⟨W,⟨m0,w0⟩,turn⟩:=h;refine wpAny_While<|codeAny_whileLoop (λn s'=>∃aS H',Inv X ai aS H' s'/\W n aS H') ?_ m0 ⟨σ,H,I,w0⟩
 rintro n s1 ⟨BO,U,I1,w1⟩
 refine BK hp (cj (hc ai s1 BO U _ I1<|turn n BO U w1) λb s2⟨H2,I2,q2⟩=>?_)
 cases b with
 |true=>
  obtain⟨N,hN,q2⟩:=q2;refine BK hp (cj (hb ai s2 BO H2 _ I2 q2) λf s3 q3=>?_)
  cases f with
  |next=>
   obtain⟨oW,H3,I3,n3⟩:=q3;obtain⟨m',hm,w3⟩:=hN oW H3 n3;exact⟨m',hm,oW,H3,I3,w3⟩
  |cont=>
   obtain⟨oW,H3,I3,n3⟩:=q3;obtain⟨m',hm,w3⟩:=hN oW H3 n3;exact⟨m',hm,oW,H3,I3,w3⟩
  |brk=>exact q3
  |ret v=>exact q3
 |false=>
  exact Jf ⟨BO,H2,I2,q2⟩
end
structure It where
 go:af->Hp->Prop
 sP:af->Hp->V->Hp->Prop
 lQ:af->Hp->Prop
def kP(X:Cx)(ai:ag<|ak×eN)(H:Hp)(b:ak):Prop:=H b=ah/\b≠X.env.locals/\b∉X.fs/\(b∈X.ex\/X.gF.heap.objs.size<=b)/\(∀x c,X.env.cells.lookup x=L c->c≠b)/\ ∀p∈X.pn++ai,p.1≠b
theorem Inv.yu{σ:St}{b:ak}(I:Inv X ai σ H s)(hb:s.heap.objs.size<=b)(hn:H' b=ah):kP X ai H' b:=by
 refine⟨hn,tq<|gn I.lt hb,I.nofs hb,.inr<|dJ I.sz hb,λx c e z=>?_,λp hp z=>?_⟩
 ·obtain⟨v,q⟩:=I.cell x c e
  exact absurd (gn q.lt (by rw[z];exact hb))<|mU _
 ·exact absurd (gn (d_ (I.jg p hp).1) (by rw[z];exact hb))<|mU _
structure tL(P:cN)(w:World)(K:aq)(tg:Expr)(cz:It)(fp:ag ak)(it:ak)(tn:af->b9->Prop):Prop where
 mem:it∈fp
 obj:∀i h,tn i h-> ∀b∈fp,∃o,h.get? b=L o/\ ∀v,o.data≠ .cell v
 keep:∀i h h',tn i h->(∀b∈fp,∀o,h.get? b=L o->h'.get? b=L o)->tn i h'
 item:∀X,X.prog=P->X.w=w->X.K=K->X.j6=ao-> ∀i ai s(σ:St)H E,Inv X ai σ H s->(∀b∈fp,kP X ai H b)->tn i s.heap->cz.go i H->b_ (bX P w) X.A (pyNext<|.ref it) (λr s1=>∃u,r=L u/\b_ (bX P w) X.A (RQ tg (.ref it) u) (λ_ s2=>∃x H',Inv X ai σ H' s2/\RelV x u/\cz.sP i H x H'/\tn (i+1) s2.heap/\ ∀b∈fp,H' b=ah) E s1) E s
 done:∀X,X.prog=P->X.w=w->X.K=K->X.j6=ao-> ∀i ai s(σ:St)H E,Inv X ai σ H s->(∀b∈fp,kP X ai H b)->tn i s.heap->cz.lQ i H->b_ (bX P w) X.A (pyNext<|.ref it) (λr s1=>r=ah/\Inv X ai σ H s1) E s
 uW:∀A i s Q E,tn i s.heap->Q (.ref it) s->b_ (bX P w) A (pyIter<|.ref it) Q E s
abbrev TI:=St->Hp->(It->Hp->Prop)->Prop
def OQ(X:Cx)(ai:ag<|ak×eN)(σ:St)(tg:Expr)(R:It->Hp->Prop)(GL:aE)(s2:de):Prop:=∃(it:ak)(fp:ag ak)(tn:af->b9->Prop)(cz:It)(H':Hp),GL= .ref it/\Inv X ai σ H' s2/\tL X.prog X.w X.K tg cz fp it tn/\tn 0 s2.heap/\(∀b∈fp,kP X ai H' b)/\R cz H'
def PI(X:Cx)(tg hZ:Expr)(wi:TI):Prop:=∀ai s(σ:St)H R,Inv X ai σ H s->wi σ H R->b_ (bX X.prog X.w) X.A (da hZ X.env) (λv s1=>b_ (bX X.prog X.w) X.A (pyIter v) (OQ X ai σ tg R) X.xe s1) X.xe s
theorem KU(ho:s.heap.get? it=L o)(hc:o.cls= .type n)(hd:o.data= .fields vs)
 (hn:["enumerate","zip","dict_itemiterator","dict_reverseitemiterator","odict_iterator","itertools.zip_longest","itertools.pairwise"].contains n=aK) (hQ:Q () s):b_ aJ A (RQ tg (.ref it) u) Q E s:=by
 cases tg<;>first
  |exact gc hQ
  |(cases u<;>first
     |exact gc hQ
     |(refine dh (wpAny_load ho ?_)
       rw[hc,hd];show b_ aJ A (if _=ao then _ else _) Q E s;rw[ay (by intro h;rw[hn,Bool.false_and] at h;cases h)]
       exact gc hQ))
def vF(K:aq)(a:ak):It:=⟨λi H=>∃xs x,SqL K H a xs/\xs[i]? =L x,λi H x H'=>H'=H/\ ∀xs,SqL K H a xs->xs[i]? =L x,λi H=>∃xs,SqL K H a xs/\xs.length<=i⟩
def BU(K:aq)(a:ak):It:=⟨λi H=>∃xs x,cD K H a xs/\xs[i]? =L x,λi H x H'=>H'=H/\ ∀xs,cD K H a xs->xs[i]? =L x,λi H=>∃xs,cD K H a xs/\xs.length<=i⟩
def sY(lo:ae)(n:af):It:=⟨λi _=>i<n,λi H x H'=>H'=H/\x= .int (lo+i),λi _=>n<=i⟩
theorem turn_list{K:aq}(a it:ak):tL P w K tg (vF K a) [it] it (λi h=>h.IsListIter it a i) where
 mem:=by simp
 obj:=λi h st b hb=>by
  have e:=by simpa using hb
  subst e;obtain⟨o,e,c,d⟩:=st;exact⟨o,e,λv z=>by rw[d] at z;cases z⟩
 keep:=λi h h' st k=>st.at λo e=>k it (by simp) o e
 item:=by
  intro X hP hw hK hc i ai s σ H E I hf st hg;subst hP hw hK;obtain⟨xs,x,hq,hx⟩:=hg;obtain⟨aZ,rv,p,hz⟩:=I.list hq;obtain⟨u,hu,ru⟩:=rv.get hx;obtain⟨f0,f1,f2,f3,f4,f5⟩:=hf it<|by simp
  refine wpAny_pyNext_list_item st p.isList (by simpa using hu) λh' xt sb=>?_;have I1:=I.turned (t':=s.toks) (λb o hb e=>(sb.2 b hb).trans e) f0 f1 f3 f4 f5;obtain⟨o,e,c,d⟩:=id xt;exact⟨u,J,KU e c d dc ⟨x,H,I1,ru,⟨J,λys hy=>by rw[I.GS hy hq];exact hx⟩,xt,λb hb=>(hf b hb).1⟩⟩
 done:=by
  intro X hP hw hK hc i ai s σ H E I hf st hg;subst hP hw hK;obtain⟨xs,hq,hx⟩:=hg;obtain⟨aZ,rv,p,hz⟩:=I.list hq;obtain⟨f0,f1,f2,f3,f4,f5⟩:=hf it<|by simp
  have hl:=rv.length;exact wpAny_pyNext_list_end (I.ok.hd hc) st p.isList (by simp;omega) λh' eb=>⟨J,I.turned (λb o hb e=>eb b o hb e) f0 f1 f3 f4 f5⟩
 uW:=λ_ _ _ _ _ st h=>wpAny_pyIter_listiter st h
theorem turn_tuple{K:aq}(a it:ak):tL P w K tg (BU K a) [it] it (λi h=>h.IsTupleIter it a i) where
 mem:=by simp
 obj:=λi h st b hb=>by
  have e:=by simpa using hb
  subst e;obtain⟨o,e,c,d⟩:=st;exact⟨o,e,λv z=>by rw[d] at z;cases z⟩
 keep:=λi h h' st k=>st.at λo e=>k it (by simp) o e
 item:=by
  intro X hP hw hK hc i ai s σ H E I hf st hg;subst hP hw hK;obtain⟨xs,x,hq,hx⟩:=hg;obtain⟨aZ,rv,p,hz⟩:=I.tuple hq;obtain⟨u,hu,ru⟩:=rv.get hx;obtain⟨f0,f1,f2,f3,f4,f5⟩:=hf it<|by simp
  refine wpAny_pyNext_tuple_item st (show s.heap.IsTuple a aZ.toArray from p) (by simpa using hu) λh' xt sb=>?_;have I1:=I.turned (t':=s.toks) (λb o hb e=>(sb.2 b hb).trans e) f0 f1 f3 f4 f5;obtain⟨o,e,c,d⟩:=id xt;exact⟨u,J,KU e c d dc ⟨x,H,I1,ru,⟨J,λys hy=>by rw[I.tuple_inj hy hq];exact hx⟩,xt,λb hb=>(hf b hb).1⟩⟩
 done:=by
  intro X hP hw hK hc i ai s σ H E I hf st hg;subst hP hw hK;obtain⟨xs,hq,hx⟩:=hg;obtain⟨aZ,rv,p,hz⟩:=I.tuple hq;obtain⟨f0,f1,f2,f3,f4,f5⟩:=hf it<|by simp
  have hl:=rv.length;exact wpAny_pyNext_tuple_end (I.ok.hd hc) st (show s.heap.IsTuple a aZ.toArray from p) (by simp;omega) λh' eb=>⟨J,I.turned (λb o hb e=>eb b o hb e) f0 f1 f3 f4 f5⟩
 uW:=λ_ _ _ _ _ st h=>wpAny_pyIter_tupleiter st h
theorem turn_range{K:aq}(it:ak)(lo:ae)(n:af):tL P w K tg (sY lo n) [it] it (λi h=>IsRangeIter h it (lo+i*1) (n-i) 1) where
 mem:=by simp
 obj:=λi h st b hb=>by
  have e:=by simpa using hb
  subst e
  exact⟨_,st,λv z=>by
   have z':=z
   cases z'⟩
 keep:=λi h h' st k=>k it (by simp) _ st
 item:=by
  intro X hP hw hK hc i ai s σ H E I hf st hg;subst hP hw hK;obtain⟨f0,f1,f2,f3,f4,f5⟩:=hf it<|by simp
  have W:=Walks.range (prog:=X.prog) (w:=X.w) (I.ok.hd hc) it lo 1 n;refine W.item i s _ _ hg st λv h' tk hv xt kk=>?_;obtain⟨t,rfl⟩:=hv;have I1:Inv X ai σ H {s with heap:=h',toks:=tk}:=I.turned (λb o hb e=>kk b o (by simpa using hb) e) f0 f1 f3 f4 f5;refine⟨_,J,KU xt J J dc ⟨.int _,H,I1,⟨t,?_⟩,⟨J,J⟩,xt,λb hb=>(hf b hb).1⟩⟩;rw[E9]
 done:=by
  intro X hP hw hK hc i ai s σ H E I hf st hg;obtain⟨f0,f1,f2,f3,f4,f5⟩:=hf it<|by simp
  exact wpAny_pyNext_range_end (I.ok.hd hc) st (by have:n<=i:=hg;omega) λh' eb=>⟨J,I.turned (λb o hb e=>eb b o hb e) f0 f1 f3 f4 f5⟩
 uW:=λ_ _ _ _ _ st h=>wpAny_pyIter_rangeiter st h
end L2
namespace L2
open PySem PySem.Spec PyProof.Rows
section
variable{X:Cx}{tg:Expr}
def yH(K:aq)(tl:TE):TI:=λσ H R=>tl σ H λx U=>∃a,x= .ref a/\(∃xs,SqL K U a xs)/\R (vF K a) U
def iTup(K:aq)(tl:TE):TI:=λσ H R=>tl σ H λx U=>∃a,x= .ref a/\(∃xs,cD K U a xs)/\R (BU K a) U
theorem jf(hl:PE X l tl):PI X tg l<|yH X.K tl:=by
 intro ai s σ H R I h;refine cj (hl ai s σ H _ I h) λv s1⟨x,U,I1,r1,q1⟩=>?_;obtain⟨a,e,⟨xs,hq⟩,q⟩:=q1;subst e
 cases r1
 obtain⟨aZ,rv,p,hz⟩:=I1.list hq;refine wpAny_pyIter_list p.isList ?_;refine⟨s1.heap.objs.size,_,_,_,U,J,I1.kept λb o e=>iK _ e,turn_list a _,⟨_,o6 _ J,J,J⟩,λb hb=>?_,q⟩;have e:=by simpa using hb
 subst e;exact I1.yu (dO _) (I1.bK.fresh<|dO _)
theorem pi_tup(hl:PE X l tl):PI X tg l<|iTup X.K tl:=by
 intro ai s σ H R I h;refine cj (hl ai s σ H _ I h) λv s1⟨x,U,I1,r1,q1⟩=>?_;obtain⟨a,e,⟨xs,hq⟩,q⟩:=q1;subst e
 cases r1
 obtain⟨aZ,rv,p,hz⟩:=I1.tuple hq;refine wpAny_pyIter_tuple (show s1.heap.IsTuple a aZ.toArray from p) ?_;refine⟨s1.heap.objs.size,_,_,_,U,J,I1.kept λb o e=>iK _ e,turn_tuple a _,⟨_,o6 _ J,J,J⟩,λb hb=>?_,q⟩;have e:=by simpa using hb
 subst e;exact I1.yu (dO _) (I1.bK.fresh<|dO _)
theorem range_it{σ:St}{lo hi:ae}(I:Inv X ai σ H s)(h1: -(2^62)<=lo)(h2:lo<2^62)(h3: -(2^62)<=hi)(h4:hi<2^62)
 (q:R (sY lo (hi-lo).toNat) H):b_ (bX X.prog X.w) X.A (pyIter<|.ref s.heap.objs.size) (OQ X ai σ tg R) E {s with heap:=s.heap.push {cls:=.type "range",data:=.fields #[.int lo t,.int hi u,.int 1 v]},toks:=tk}:=by
 refine wpAny_pyIter_range (IsRange.new ..) (small_one h1 h2 h3 h4) ?_;have I1:Inv X ai σ H {s with heap:=s.heap.push {cls:=.type "range",data:=.fields #[.int lo t,.int hi u,.int 1 v]},toks:=tk}:=I.kept λb o e=>iK _ e
 refine⟨(s.heap.push {cls:=.type "range",data:=.fields #[.int lo t,.int hi u,.int 1 v]}).objs.size,_,_,_,H,J,I1.kept λb o e=>iK _ e,turn_range _ lo (hi-lo).toNat,?_,λb hb=>?_,q⟩
 ·have e1:lo+(0:af)*1=lo:=by simp
  have e2:((hi-lo).toNat:af)-(0:af)=Builtin.Range.rangeSize lo hi 1:=by rw[rangeSize_one];split<;>omega
  rw[e1,e2];exact o6 _ J
 ·have e:b=(s.heap.push {cls:=.type "range",data:=.fields #[.int lo t,.int hi u,.int 1 v]}).objs.size:=by simpa using hb
  subst e;exact I1.yu (dO _) (I1.bK.fresh<|dO _)
def GG(ta:TA):TI:=λσ H R=>ta σ H λvs U=>∃j,vs=[.int j]/\ -(2^62)<=j/\j<2^62/\R (sY 0 j.toNat) U
theorem zg(hg:Gl X "range")(hm:X.mg "range"=ah)(ha:PA X [a] ta)(hs:dq [a] X.env=[(aK,da a X.env)]:=by rfl):PI X tg (.Call (.Name "range" p) [a] [] pos)<|GG ta:=by
 intro ai s σ H R I h;refine Call_ (DD I hg hm boot_range<|JV (cj (ha pos ai s σ H _ I h) λus s1⟨vs,U,I1,r1,q1⟩=>?_) hs J);obtain⟨j,e,q1,q2,q⟩:=q1;subst e
 cases r1 with
 |cons r rr=>
  cases rr
  obtain⟨t,rfl⟩:=r;exact call_range_1 (range_it I1 om om q1 q2<|by simpa using q)
def VV(wi:TI)(g:TG)(tb:TS):TS:=λD σ H=>wi σ H λcz U=>∃W:af->af->St->Hp->Prop,(∃m,W 0 m σ U)/\ ∀i m σ H,W i m σ H->(cz.lQ i H/\D.nx σ H)\/(cz.go i H/\ ∃N,(∀aS H',N aS H'-> ∃m',m'<m/\W (i+1) m' aS H')/\ ∀x H',cz.sP i H x H'->g x σ H' λc9 H2=>tb {D with nx:=N,ct:=N,bk:=D.nx} c9 H2)
def Ec(fp:ag ak)(h:b9):ag<|ak×eN:=fp.filterMap λb=>(h.get? b).map λo=>(b,o)
theorem GY(hb:b∈fp)(e:h.get? b=L o):(b,o)∈Ec fp h:=List.mem_filterMap.mpr ⟨b,hb,by rw[e];rfl⟩
theorem of_pinsAt(hp:p∈Ec fp h):p.1∈fp/\h.get? p.1=L p.2:=by
 obtain⟨b,hb,e⟩:=List.mem_filterMap.mp hp
 cases q:h.get? b with
 |none=>rw[q] at e;cases e
 |some o=>
  rw[q] at e;have e':=mV e;subst e';exact⟨hb,q⟩
theorem Inv.Mp{σ:St}(I:Inv X ai σ H s)(hf:∀b∈fp,kP X ai H b)(ho:∀b∈fp,∃o,s.heap.get? b=L o/\ ∀v,o.data≠ .cell v):Inv X (ai++Ec fp s.heap) σ H s:=I.TF λp hp=>(List.mem_append.mp hp).elim (λz=>I.jg p<|tj _ z) λz=>by
  obtain⟨hb,e⟩:=of_pinsAt z;obtain⟨f0,f1,f2,_⟩:=hf p.1 hb;obtain⟨o,e',d⟩:=ho p.1 hb;rw[e] at e';cases e'
  exact⟨e,f0,f1,f2,d⟩
theorem Inv.ES{σ:St}(I:Inv X (ai++pl) σ H s):Inv X ai σ H s:=I.TF λp hp=>I.jg p (tj _<|OC _ hp)
theorem nW(hp:JT (bX X.prog X.w) X.A X.env X.xe)(hc:X.j6=ao)(hi:PI X tg hZ wi)(hg:PG X tg g)(hb:iX X body tb)
 (hs:∀x,C9 hZ X.env x=pure x:=by intro _;rfl):PS X (.For tg hZ body [] pos)<|VV wi g tb:=by
 intro ai s σ H D I h;refine wpAny_For (cj (hi ai s σ H _ I h) λv s1 h1=>cj h1 λGL s2 h2=>?_) hs;obtain⟨it,fp,tn,cz,H2,e,I2,T,my,f2,W,⟨m0,w0⟩,turn⟩:=h2;subst e;have qN:∀{H':Hp},(∀b∈fp,H' b=ah)-> ∀b∈fp,kP X ai H' b:=λhn b hb=>⟨hn b hb,(f2 b hb).2⟩;refine codeAny_forLoop_any (λn s'=>∃i aS H',Inv X ai aS H' s'/\tn i s'.heap/\(∀b∈fp,H' b=ah)/\W i n aS H') ?_ m0 ⟨0,σ,H2,I2,my,λb hb=>(f2 b hb).1,w0⟩
 rintro n s3 ⟨i,oW,H3,I3,BB,fr3,w3⟩
 rcases turn i n oW H3 w3 with⟨lQ,qn⟩|⟨go,N,hN,step⟩
 ·refine BK hp (cj (T.done X J J J hc i ai s3 oW H3 X.xe I3 (qN fr3) BB lQ) λr s4⟨hr,I4⟩=>?_)
  subst hr;exact Jf ⟨oW,H3,I4,qn⟩
 ·refine BK hp (cj (T.item X J J J hc i ai s3 oW H3 X.xe I3 (qN fr3) BB go) λr s4⟨u,hr,h4⟩=>?_)
  subst hr;refine BK hp (cj h4 λ_ s5⟨x,H5,I5,r5,y5,st5,fr5⟩=>?_);have WL:=I5.Mp (qN fr5)<|T.obj _ _ st5;refine BK hp (cj (hg _ s5 oW H5 x u _ WL r5<|step x H5 y5) λ_ s6⟨σ6,H6,I6,q6⟩=>?_);refine BK hp (cj (hb _ s6 σ6 H6 _ I6 q6) λf s7 q7=>?_);have again:∀{qS:St}{H7:Hp},Inv X _ qS H7 s7->N qS H7-> ∃m,m<n/\ ∃i aS H',Inv X ai aS H' s7/\tn i s7.heap/\(∀b∈fp,H' b=ah)/\W i m aS H':=λ{qS H7}I7 n7=>by
   obtain⟨m',hm,w7⟩:=hN qS H7 n7;refine⟨m',hm,i+1,qS,H7,I7.ES,T.keep _ _ _ st5 λb hb o e=>(I7.jg _<|tj _ (tj _<|GY hb e)).1,λb hb=>?_,w7⟩;obtain⟨o,e,d⟩:=T.obj _ _ st5 b hb;exact(I7.jg _<|tj _ (tj _<|GY hb e)).2.1
  cases f with
  |next=>obtain⟨qS,H7,I7,n7⟩:=q7;exact again I7 n7
  |cont=>obtain⟨qS,H7,I7,n7⟩:=q7;exact again I7 n7
  |brk=>obtain⟨qS,H7,I7,q7⟩:=q7;exact⟨qS,H7,I7.ES,q7⟩
  |ret v=>obtain⟨x7,qS,H7,I7,r7,q7⟩:=q7;exact⟨x7,qS,H7,I7.ES,r7,q7⟩
end
theorem Ay{K:aq}{g:TG}{tb:TS}{D:Ends}(Pv:af->St->Hp->Prop)(h0:Pv 0 σ H)(hl:∀i σ H,i<=xs.length->Pv i σ H->SqL K H a xs)
 (hs:∀i x σ H,xs[i]? =L x->Pv i σ H->g x σ H λc9 H2=>tb {D with nx:=Pv<|i+1,ct:=Pv<|i+1,bk:=D.nx} c9 H2) (hd:∀σ H,Pv xs.length σ H->D.nx σ H):
 ∃W:af->af->St->Hp->Prop,(∃m,W 0 m σ H)/\ ∀i m σ H,W i m σ H->((vF K a).lQ i H/\D.nx σ H)\/((vF K a).go i H/\ ∃N,(∀aS H',N aS H'-> ∃m',m'<m/\W (i+1) m' aS H')/\ ∀x H',(vF K a).sP i H x H'->g x σ H' λc9 H2=>tb {D with nx:=N,ct:=N,bk:=D.nx} c9 H2):=by
 refine⟨λi m σ H=>m=xs.length-i/\i<=xs.length/\Pv i σ H,⟨xs.length,by simp,eI _,h0⟩,?_⟩
 rintro i m σ H ⟨rfl,hi,p⟩
 have q:=hl i σ H hi p;by_cases d7:i<xs.length
 ·refine .inr ⟨⟨xs,xs[i],q,by simp[d7]⟩,Pv<|i+1,λaS H' p'=>⟨xs.length-(i+1),om,J,d7,p'⟩,λx H' y=>?_⟩
  obtain⟨e,y⟩:=y;subst e;exact hs i x σ _ (y xs q) p
 ·have e:i=xs.length:=by omega
  subst e;exact .inl ⟨⟨xs,q,dO _⟩,hd σ H p⟩
theorem ZF{K:aq}{g:TG}{tb:TS}{D:Ends}(Pv:af->St->Hp->Prop)(h0:Pv 0 σ H)(hl:∀i σ H,i<=xs.length->Pv i σ H->cD K H a xs)
 (hs:∀i x σ H,xs[i]? =L x->Pv i σ H->g x σ H λc9 H2=>tb {D with nx:=Pv<|i+1,ct:=Pv<|i+1,bk:=D.nx} c9 H2) (hd:∀σ H,Pv xs.length σ H->D.nx σ H):
 ∃W:af->af->St->Hp->Prop,(∃m,W 0 m σ H)/\ ∀i m σ H,W i m σ H->((BU K a).lQ i H/\D.nx σ H)\/((BU K a).go i H/\ ∃N,(∀aS H',N aS H'-> ∃m',m'<m/\W (i+1) m' aS H')/\ ∀x H',(BU K a).sP i H x H'->g x σ H' λc9 H2=>tb {D with nx:=N,ct:=N,bk:=D.nx} c9 H2):=by
 refine⟨λi m σ H=>m=xs.length-i/\i<=xs.length/\Pv i σ H,⟨xs.length,by simp,eI _,h0⟩,?_⟩
 rintro i m σ H ⟨rfl,hi,p⟩
 have q:=hl i σ H hi p;by_cases d7:i<xs.length
 ·refine .inr ⟨⟨xs,xs[i],q,by simp[d7]⟩,Pv<|i+1,λaS H' p'=>⟨xs.length-(i+1),om,J,d7,p'⟩,λx H' y=>?_⟩
  obtain⟨e,y⟩:=y;subst e;exact hs i x σ _ (y xs q) p
 ·have e:i=xs.length:=by omega
  subst e;exact .inl ⟨⟨xs,q,dO _⟩,hd σ H p⟩
theorem QI{lo:ae}{g:TG}{tb:TS}{D:Ends}(Pv:af->St->Hp->Prop)(h0:Pv 0 σ H)
 (hs:∀i σ H,i<n->Pv i σ H->g (.int<|lo+i) σ H λc9 H2=>tb {D with nx:=Pv<|i+1,ct:=Pv<|i+1,bk:=D.nx} c9 H2) (hd:∀σ H,Pv n σ H->D.nx σ H):
 ∃W:af->af->St->Hp->Prop,(∃m,W 0 m σ H)/\ ∀i m σ H,W i m σ H->((sY lo n).lQ i H/\D.nx σ H)\/((sY lo n).go i H/\ ∃N,(∀aS H',N aS H'-> ∃m',m'<m/\W (i+1) m' aS H')/\ ∀x H',(sY lo n).sP i H x H'->g x σ H' λc9 H2=>tb {D with nx:=N,ct:=N,bk:=D.nx} c9 H2):=by
 refine⟨λi m σ H=>m=n-i/\i<=n/\Pv i σ H,⟨n,by simp,eI _,h0⟩,?_⟩
 rintro i m σ H ⟨rfl,hi,p⟩
 by_cases d7:i<n
 ·refine .inr ⟨d7,Pv<|i+1,λaS H' p'=>⟨n-(i+1),om,J,d7,p'⟩,λx H' y=>?_⟩
  obtain⟨e,y⟩:=y;subst e y;exact hs i σ _ d7 p
 ·have e:i=n:=by omega
  subst e;exact .inl ⟨dO _,hd σ H p⟩
theorem while_by(Pv:St->Hp->Prop)(μ:St->Hp->af)(h0:Pv σ H)
 (hs:∀σ H,Pv σ H->c σ H λb U=>if b=ao then tb {D with nx:=λaS H'=>Pv aS H'/\μ aS H'<μ σ H,ct:=λaS H'=>Pv aS H'/\μ aS H'<μ σ H,bk:=D.nx} σ U else D.nx σ U)
 (aV:∀σ H Q Q',(∀b U,Q b U->Q' b U)->c σ H Q->c σ H Q'):N0 c tb D σ H:=by
 refine⟨λm σ H=>m=μ σ H/\Pv σ H,⟨_,J,h0⟩,?_⟩
 rintro m σ H ⟨rfl,p⟩
 refine aV σ H _ _ (λb U q=>?_)<|hs σ H p
 cases b with
 |true=>exact⟨_,λaS H'⟨p',l⟩=>⟨_,l,J,p'⟩,q⟩
 |false=>exact q
end L2
namespace L2
open PySem PySem.Spec PyProof.Rows
abbrev R2:=V->V->Hp->VK->Prop
def fR(X:Cx)(f:aE->aE->Sem aE)(r:R2):Prop:=∀ai s(σ:St)H x y v u Q,Inv X ai σ H s->RelV x v->RelV y u->r x y H Q->b_ (bX X.prog X.w) X.A (f v u) (EP X ai σ Q) X.xe s
def J9(X:Cx)(f:aE->Sem aE)(r:V->Hp->VK->Prop):Prop:=∀ai s(σ:St)H x v Q,Inv X ai σ H s->RelV x v->r x H Q->b_ (bX X.prog X.w) X.A (f v) (EP X ai σ Q) X.xe s
def vC(X:Cx)(f:aE)(r:ag V->Hp->VK->Prop):Prop:=∀ai s(σ:St)H xs us Q,Inv X ai σ H s->cI xs us->r xs H Q->b_ (bX X.prog X.w) X.A (call f us) (EP X ai σ Q) X.xe s
def bY(r:R2)(ta tb:TE):TE:=λσ H Q=>ta σ H λx U=>tb σ U λy H2=>r x y H2 Q
def V0(r:V->Hp->VK->Prop)(ta:TE):TE:=λσ H Q=>ta σ H λx U=>r x U Q
def rI(C:ae->ae->Prop)(g:ae->ae->V):R2:=λx y H Q=>∃i j,x= .int i/\y= .int j/\C i j/\Q (g i j) H
def gy(g:ae->ae->V):R2:=λx y H Q=>∃i j,x= .int i/\y= .int j/\Q (g i j) H
def rU(g:ae->V):V->Hp->VK->Prop:=λx H Q=>∃i,x= .int i/\Q (g i) H
section
variable{X:Cx}{a b c:Expr}{ta tb tc:TE}{pos:gP}
theorem Ke(ha:PE X a ta)(hb:PE X b tb){σ:St}{R:V->V->Hp->Prop}(I:Inv X ai σ H s)
 (h:ta σ H λx U=>tb σ U λy H2=>R x y H2) {f:aE->aE->Sem aE}
 (hf:∀v u s2 x y H2,Inv X ai σ H2 s2->RelV x v->RelV y u->R x y H2->b_ (bX X.prog X.w) X.A (f v u) Q X.xe s2):
 b_ (bX X.prog X.w) X.A (da a X.env) (λv eM=>b_ (bX X.prog X.w) X.A (da b X.env) (λu jT=>b_ (bX X.prog X.w) X.A (f v u) Q X.xe jT) X.xe eM) X.xe s:=by
 refine cj (ha ai s σ H _ I h) λv s1⟨x,U,I1,r1,q1⟩=>?_;refine cj (hb ai s1 σ U _ I1 q1) λu s2⟨y,H2,I2,r2,q2⟩=>?_;exact hf v u s2 x y H2 I2 r1 r2 q2
theorem bL(ho:fR X (nr op) r)(ha:PE X a ta)(hb:PE X b tb):PE X (.BinOp a op b pos)<|bY r ta tb:=by
 intro ai s σ H Q I h;exact wpAny_BinOp (Ke ha hb I h λv u s2 x y H2 I2 rx ry q=>ho ai s2 σ H2 x y v u Q I2 rx ry q)
theorem xg(ho:J9 X (unaryOp op) r)(ha:PE X a ta):PE X (.UnaryOp op a pos)<|V0 r ta:=by
 intro ai s σ H Q I h;exact UnaryOp_ (cj (ha ai s σ H _ I h) λv s1⟨x,U,I1,r1,q1⟩=>ho ai s1 σ U x v Q I1 r1 q1)
theorem w_{g:ae->ae->ae}
 (rule:∀i j t u s Q E,C i j->Q (.int (g i j) s.toks) {s with toks:=s.toks+1}->b_ (bX X.prog X.w) X.A (f (.int i t)<|.int j u) Q E s):
 fR X f (rI C λi j=>.int<|g i j):=by
 intro ai s σ H x y v u Q I rx ry h;obtain⟨i,j,rfl,rfl,hc,q⟩:=h;obtain⟨t,rfl⟩:=rx;obtain⟨t',rfl⟩:=ry;exact rule i j t t' s _ _ hc ⟨.int _,H,I.lR _,⟨_,J⟩,q⟩
theorem Hy{g:ae->ae->ae}
 (rule:∀i j t u s Q E,Q (.int (g i j) s.toks) {s with toks:=s.toks+1}->b_ (bX X.prog X.w) X.A (f (.int i t)<|.int j u) Q E s):
 fR X f (gy λi j=>.int<|g i j):=by
 intro ai s σ H x y v u Q I rx ry h;obtain⟨i,j,rfl,rfl,q⟩:=h;obtain⟨t,rfl⟩:=rx;obtain⟨t',rfl⟩:=ry;exact rule i j t t' s _ _ ⟨.int _,H,I.lR _,⟨_,J⟩,q⟩
theorem D6{g:ae->ae->c_}
 (rule:∀i j t u s Q E,Q (.bool<|g i j) s->b_ (bX X.prog X.w) X.A (f (.int i t)<|.int j u) Q E s):
 fR X f (gy λi j=>.bl<|g i j):=by
 intro ai s σ H x y v u Q I rx ry h;obtain⟨i,j,rfl,rfl,q⟩:=h;obtain⟨t,rfl⟩:=rx;obtain⟨t',rfl⟩:=ry;exact rule i j t t' s _ _ ⟨.bl _,H,I,J,q⟩
def Jm(i j:ae):Prop:=0<j/\j<1073741824
def Jn(i j:ae):Prop:=(-(2^64)<i/\i<2^64)\/(-(2^64)<j/\j<2^64)
theorem Jn.ok(h:Jn i j):IntMulOk i j:=by
 rcases h with⟨h1,h2⟩|⟨h1,h2⟩
 ·exact .of_left<|intBits_le_64 h1 h2
 ·exact .of_right<|intBits_le_64 h1 h2
theorem V_(k:af):(0:ae)<=2^k:=by
 exact WV _
theorem fu:fR X (nr .Add) (gy λi j=>.int<|i+j):=Hy λ_ _ _ _ _ _ _ q=>add_int q
theorem ig:fR X (nr .Sub) (gy λi j=>.int<|i-j):=Hy λ_ _ _ _ _ _ _ q=>sub_int q
theorem D8:fR X (nr .Mult) (rI Jn λi j=>.int<|i*j):=w_ λ_ _ _ _ _ _ _ hc q=>mul_int q hc.ok
theorem D7:fR X (nr .FloorDiv) (rI Jm λi j=>.int<|i/j):=w_ λi j _ _ _ _ _ hc q=>by
 have h1:=hc.1;have h2:=hc.2;exact floordiv_int om (by rw[Jw i om];exact q) (.inl<|PyProof.noPylong_small om)
theorem HA:fR X (nr .Mod) (rI (λ_ j=>0<j) λi j=>.int<|i%j):=w_ λi j _ _ _ _ _ hc q=>by
 exact mod_int' om (by rw[Int.fmod_eq_emod_of_nonneg i om];exact q)
theorem Mh:fR X (nr .RShift) (rI (λ_ j=>0<=j) λi j=>.int<|i/2^j.toNat):=w_ λi j _ _ _ _ _ hc q=>
 rshift_int hc<|by rw[Jw i<|V_ _];exact q
theorem op_and:fR X (nr .BitAnd) (gy λi j=>.int<|Builtin.bitAnd i j):=Hy λ_ _ _ _ _ _ _ q=>and_int q
theorem Lr:fR X (GH .Add) (gy λi j=>.int<|i+j):=Hy λ_ _ _ _ _ _ _ q=>iadd_int q
theorem iop_shr:fR X (GH .RShift) (rI (λ_ j=>0<=j) λi j=>.int<|i/2^j.toNat):=w_ λi j _ _ _ _ _ hc q=>
 irshift_int hc<|by rw[Jw i<|V_ _];exact q
theorem unI{g:ae->ae}
 (rule:∀i t s Q E,Q (.int (g i) s.toks) {s with toks:=s.toks+1}->b_ (bX X.prog X.w) X.A (f<|.int i t) Q E s):
 J9 X f (rU λi=>.int<|g i):=by
 intro ai s σ H x v Q I rx h;obtain⟨i,rfl,q⟩:=h;obtain⟨t,rfl⟩:=rx;exact rule i t s _ _ ⟨.int _,H,I.lR _,⟨_,J⟩,q⟩
theorem xA:J9 X (unaryOp .USub) (rU λi=>.int (-i)):=unI λ_ _ _ _ _ q=>neg_int q
end
def scal:V->V->c_
 | .cE,.cE=>ao| .cE,.int _=>ao| .int _,.cE=>ao| .cE,.bl _=>ao| .bl _,.cE=>ao| .cE,.str _=>ao| .str _,.cE=>ao
 | .int _,.int _=>ao| .bl _,.bl _=>ao| .str _,.str _=>ao| .ny _,.ny _=>ao
 | .int _,.str _=>ao| .str _,.int _=>ao| .bl _,.str _=>ao| .str _,.bl _=>ao
 |_,_=>aK
def rNe:R2:=λx y H Q=>scal x y=ao/\Q (.bl<|!decide (x=y)) H
theorem Za:decide (V.int i=V.int j)=(i==j):=by
 rw[E3];simp
theorem Y9:decide (V.bl i=V.bl j)=(i==j):=by
 rw[E3];simp
theorem Zc:decide (V.str i=V.str j)=(i==j):=by
 rw[E3];simp
theorem Y':decide (V.ny i=V.ny j)=(i.toList==j.toList):=by
 rw[E3]
 cases i
 cases j
 simp
section
variable{X:Cx}{a b c:Expr}{ta tb tc:TE}{pos:gP}
theorem kz{σ:St}(I:Inv X ai σ H s)(q:Q (.bl k) H)(e:k=k'):EP X ai σ Q (.bool k') s:=by
 subst e;exact⟨.bl k,H,I,J,q⟩
theorem op_ne:fR X (nz .NotEq) rNe:=by
 intro ai s σ H x y v u Q I rx ry h;obtain⟨hs,q⟩:=h
 cases x with
 |cE=>
  cases rx
  cases y with
  |cE=>cases ry;exact PySem.EqNone.ne_none_none (kz I q<|by simp)
  |bl j=>cases ry;exact PySem.EqNone.ne_none_bool (kz I q<|by simp)
  |int j=>obtain⟨t',rfl⟩:=ry;exact PySem.EqNone.ne_none_int (kz I q<|by simp)
  |str j=>obtain⟨t',rfl⟩:=ry;exact PySem.EqNone.ne_none_str (kz I q<|by simp)
  |_=>exact absurd (show aK=ao from hs) vB
 |bl i=>
  cases rx
  cases y with
  |cE=>cases ry;exact PySem.EqNone.ne_bool_none (kz I q<|by simp)
  |bl j=>cases ry;exact ne_bool (kz I q<|gH not Y9)
  |str j=>obtain⟨t',rfl⟩:=ry;exact PySem.EqMixed.ne_bool_str (kz I q<|by simp)
  |_=>exact absurd (show aK=ao from hs) vB
 |int i=>
  obtain⟨t,rfl⟩:=rx
  cases y with
  |cE=>cases ry;exact PySem.EqNone.ne_int_none (kz I q<|by simp)
  |int j=>obtain⟨t',rfl⟩:=ry;exact ne_int (kz I q<|gH not Za)
  |str j=>obtain⟨t',rfl⟩:=ry;exact PySem.EqMixed.ne_int_str (kz I q<|by simp)
  |_=>exact absurd (show aK=ao from hs) vB
 |str i=>
  obtain⟨t,rfl⟩:=rx
  cases y with
  |cE=>cases ry;exact PySem.EqNone.ne_str_none (kz I q<|by simp)
  |bl j=>cases ry;exact PySem.EqMixed.ne_str_bool (kz I q<|by simp)
  |int j=>obtain⟨t',rfl⟩:=ry;exact PySem.EqMixed.ne_str_int (kz I q<|by simp)
  |str j=>obtain⟨t',rfl⟩:=ry;exact ne_str (kz I q<|gH not Zc)
  |_=>exact absurd (show aK=ao from hs) vB
 |ny i=>
  obtain⟨t,rfl⟩:=rx
  cases y with
  |ny j=>obtain⟨t',rfl⟩:=ry;exact PySem.W.ne_bytes (kz I q<|gH not Y')
  |_=>exact absurd (show aK=ao from hs) vB
 |_=>cases y<;>exact absurd (show aK=ao from hs) vB
theorem lG:fR X (nz .Lt) (gy λi j=>.bl<|decide (i<j)):=D6 λ_ _ _ _ _ _ _ q=>lt_int q
theorem Mg:fR X (nz .LtE) (gy λi j=>.bl<|decide (i<=j)):=D6 λ_ _ _ _ _ _ _ q=>le_int q
theorem uF:fR X (nz .Gt) (gy λi j=>.bl<|decide (j<i)):=D6 λ_ _ _ _ _ _ _ q=>gt_int q
theorem xb:fR X (nz .GtE) (gy λi j=>.bl<|decide (j<=i)):=D6 λ_ _ _ _ _ _ _ q=>ge_int q
theorem zc:fR X (nz .Is) λx y H Q=>y= .cE/\Q (.bl<|decide (x= .cE)) H:=by
 intro ai s σ H x y v u Q I rx ry h;obtain⟨rfl,q⟩:=h
 cases ry
 refine is_none_gen<|kz I q ?_
 cases x<;>first
  |(cases rx;rfl)
  |(obtain⟨t,rfl⟩:=rx;rfl)
theorem Tp:fR X (nz .IsNot) λx y H Q=>y= .cE/\Q (.bl<|!decide (x= .cE)) H:=by
 intro ai s σ H x y v u Q I rx ry h;obtain⟨rfl,q⟩:=h
 cases ry
 refine isnot_none_gen<|kz I q ?_
 cases x<;>first
  |(cases rx;rfl)
  |(obtain⟨t,rfl⟩:=rx;rfl)
theorem cT(b:Expr)(h:op≠ .In:=by decide)(h2:op≠ .NotIn:=by decide):behindInMarks op b=aK:=by
 have e1:(op==CmpOp.In)=aK:=by cases op<;>first|rfl|exact absurd J h
 have e2:(op==CmpOp.NotIn)=aK:=by cases op<;>first|rfl|exact absurd J h2
 cases b<;>simp[behindInMarks,e1,e2]
theorem ke(ho:fR X (nz op) r)(ha:PE X a ta)(hb:PE X b tb)(hm:behindInMarks op b=aK):PE X (.Compare a [op] [b] pos)<|bY r ta tb:=by
 intro ai s σ H Q I h;exact wpAny_Compare1 (Ke ha hb I h λv u s2 x y H2 I2 rx ry q=>ho ai s2 σ H2 x y v u Q I2 rx ry q) hm
def IU(t:TE):TT:=λσ H Q=>t σ H λx H'=>∃k,x= .bl k/\Q k H'
theorem dB(ho:fR X (nz op) r)(ha:PE X a ta)(hb:PE X b tb)(hm:behindInMarks op b=aK):PT X (.Compare a [op] [b] pos) (IU<|bY r ta tb):=by
 intro ai s σ H Q I h
 refine wpAny_isTrue_Compare1 (cj (ha ai s σ H _ I h) λv s1⟨x,U,I1,r1,q1⟩=>cj (hb ai s1 σ U _ I1 q1) λu s2⟨y,H2,I2,r2,q2⟩=>
  cj (ho ai s2 σ H2 x y v u _ I2 r1 r2 q2) λc s3⟨z,H3,I3,r3,k,e,q3⟩=>?_) hm
 subst e
 cases r3
 exact BL ⟨H3,I3,q3⟩
theorem DF:bH<2^63:=by rw[sizeLine_eq];decide
theorem vals1(r:cI [x] us):∃u,us=[u]/\RelV x u:=by
 cases r with
 |cons r1 r2=>cases r2;exact⟨_,J,r1⟩
theorem vals2(r:cI [x,y] us):∃u w',us=[u,w']/\RelV x u/\RelV y w':=by
 cases r with
 |cons r1 r2=>
  cases r2 with
  |cons r3 r4=>cases r4;exact⟨_,_,J,r1,r3⟩
theorem FR:vC X (.builtin "abs") (λxs H Q=>∃i,xs=[.int i]/\Q (.int (if i<0 then-i else i)) H):=by
 intro ai s σ H xs us Q I r h;obtain⟨i,rfl,q⟩:=h;obtain⟨u,rfl,t,rfl⟩:=vals1 r;exact call_abs_int λu tk=>⟨.int (if i<0 then-i else i),H,I.lR _,⟨_,J⟩,q⟩
theorem YV(hc:X.j6=ao):vC X (.builtin "max") (λxs H Q=>∃i j,xs=[.int i,.int j]/\Q (.int (if j>i then j else i)) H):=by
 intro ai s σ H xs us Q I r h;obtain⟨i,j,rfl,q⟩:=h;obtain⟨u,w',rfl,⟨t,rfl⟩,t',rfl⟩:=vals2 r;refine max_two_ints (I.ok.hd hc) λh' tk k=>⟨_,H,I.kept k,?_,q⟩;by_cases hj:j>i
 ·rw[aH hj,aH hj];exact⟨_,J⟩
 ·rw[ay hj,ay hj];exact⟨_,J⟩
end
end L2
namespace L2
open PySem PySem.Spec PyProof.Rows
structure xM(h:b9)(x dx C:ak)(mA:ax->aw aE):Prop where
 obj:h.get? x=L (Cg C dx)
 ns:h.Ns1 dx mA
 ne:dx≠x
theorem lookIn_ns{h:b9}(n:h.Ns1 dx mA):∃od,h.get? dx=L od/\ ∀gE,JX gE od=L (mA gE):=by
 obtain⟨o,es,ep,ho,hd,hk,_,hm⟩:=n;refine⟨o,ho,λgE=>?_⟩;have e:=hm gE;unfold nsFind C7 at e;rw[<-Array.find?_toList] at e;unfold JX;rw[hd];dsimp only
 split
 ·rename_i y q
  rw[q] at e;exact gH L e
 ·rename_i q
  rw[q] at e;have a:es.toList.any (·.refKey)=aK:=by
   rw[List.any_eq_false];intro y hy;obtain⟨z,t,hkey⟩:=hk y<|Array.mem_toList_iff.mp hy;simp[DictEntry.refKey,hkey]
  have a':¬es.toList.any (·.refKey)=ao:=by rw[a];exact vB
  rw[ay a'];exact gH L e
theorem xM.AV(I:xM h x dx C mA):∃od,PySem.W.InstAt h x (Cg C dx) C (L od)/\ ∀gE,JX gE od=L (mA gE):=let⟨od,ho,hl⟩:=lookIn_ns I.ns
 ⟨od,⟨I.obj,J,J,ho⟩,hl⟩
section
variable{prog:cN}{w:World}{A:oa}{E:aE->de->Prop}{s:de}{K:aq}{x dx C f:ak}{mA:ax->aw aE}{gE:ax}{v:aE}
theorem ZM(X:K.In s.heap)(I:xM s.heap x dx C mA)(hg:JZ K C gE=ao)(hh:O_ K C=ao)
 (ha:vN K (.ref C) gE=L ah) (hv:mA gE=L v) (AR:XN v=ao) (h:Q v {s with toks:=s.toks+1}):
 b_ (bX prog w) A (getAttr (.ref x) gE expr) Q E s:=by
 obtain⟨od,cz,hl⟩:=I.AV;exact PySem.W.get_value X cz (Pc hg).1 (PySem.W.findObj_own hh ha J<|by rw[hl,hv]) AR h
theorem ZN(X:K.In s.heap)(I:xM s.heap x dx C mA)(hg:JZ K C gE=ao)
 (hf:vN K (.ref C) gE=L (L<|.ref f)) (ht:Pa K (.ref f)=ao) (hv:mA gE=ah) (h:Q (.ref f,[.ref x]) s):
 b_ (bX prog w) A (Gk (.ref x) gE pl) Q E s:=by
 obtain⟨od,cz,hl⟩:=I.AV;exact PySem.W.method_fn X cz (Pc hg).1 (Pc hg).2 hf (beq_iff_eq.mp ht) (by show(JX gE od).map (·.isSome)=L aK;rw[hl,hv];rfl) h
theorem set_map(X:K.In s.heap)(I:xM s.heap x dx C mA)
 (hs:vN K (.ref C) "__setattr__"=L (L<|.builtin "object.__setattr__")) (hp:XS K C=ao) (ht:Pd K C gE=L ah) (hh:O_ K C=ao)
 (hw:Pe mA ns) (nJ:ns.length<=bH)
 (h:∀h',xM h' x dx C (λy=>if y=gE then L v else mA y)->E8 dx s.heap h'->Q () {s with heap:=h',toks:=s.toks+2}):
 b_ (bX prog w) A (setAttr (.ref x) gE v) Q E s:=by
 obtain⟨od,cz,hl⟩:=I.AV;refine PySem.W.set_plain X cz hs (PySem.W.osa_open X cz hp ht λb=>?_);obtain⟨cd,hc,hd'⟩:=PySem.W.any_some hh;have hx:=I.obj;refine dh (gc<|dh (dh<|wpAny_loadPart hx (dh<|PySem.W.Looks.here (PySem.W.looks_clsIn X hc) ?_)));rw[hd'];refine gc<|dh (gc<|dh ?_);refine wpAny_nsSet1 I.ns λh' AL GA=>?_;obtain⟨oD,esD,epD,hoD,hdD,hcD⟩:=AL.count<|PySem.Within.cons gE v hw;refine dh<|wpAny_lookBehind hoD (by rw[hdD];exact pastItsLine_dict<|dJ hcD (by rw[xJ];omega)) ?_;exact gc (h _ ⟨(GA.2 _<|dy I.ne).trans I.obj,AL,I.ne⟩ GA)
theorem make_map(X:K.In s.heap)(hm:XR K C=ao)
 (hi:vN K (.ref C) "__init__"=L (L<|.ref f)) (hf:PySem.W.typeIn K (.ref f)=L (.type "function"))
 (h:tT (bX prog w) (A.under<|.builtin "type.__call__" ⟨.ref C::vs,kw⟩) (.call (.ref f) ⟨.ref (s.heap.objs.size+1)::vs,kw⟩) (PySem.W.InitBack (s.heap.objs.size+1) R)
   {s with heap:=(s.heap.push zZ).push (Cg C s.heap.objs.size)}):
 tT (bX prog w) A (.call (.ref C) ⟨vs,kw⟩) R s:=by
 exact PySem.W.make_core (PySem.W.makes_of X hm) (PySem.W.looks_findIn X hi) (λuW=>PySem.W.bind_fn X uW hf) (.inl J) h
end
def aY(f:ax)(v:V):ag (ax×V)->ag (ax×V)
 |[]=>[(f,v)]
 |(g,x)::r=>if g=f then(g,v)::r else(g,x)::aY f v r
theorem dm(f g:ax)(v:V):∀fs,(aY f v fs).lookup g=if g=f then L v else fs.lookup g
 |[]=>by
  show xK g [_]=_;by_cases h:g=f
  ·have hb:=beq_iff_eq.mpr h
   simp[xK,hb,aH h]
  ·have hb:=beq_eq_false_iff_ne.mpr h
   simp[xK,hb,ay h]
 |(k,x)::r=>by
  have ih:=dm f g v r;rw[show aY f v _=(if k=f then(k,v)::r else(k,x)::aY f v r) from J];by_cases hk:k=f
  ·rw[aH hk]
   by_cases h:g=k
   ·have hb:=beq_iff_eq.mpr h
    simp[xK,hb,aH<|h.trans hk]
   ·have hb:=beq_eq_false_iff_ne.mpr h
    simp[xK,hb,ay λe:g=f=>h<|e.trans hk.symm]
  ·rw[ay hk]
   by_cases h:g=k
   ·have hb:=beq_iff_eq.mpr h
    simp[xK,hb,ay λe=>hk<|h.symm.trans e]
   ·have hb:=beq_eq_false_iff_ne.mpr h
    simp[xK,hb];exact ih
theorem Lu(f:ax)(v:V):∀fs,f∈(aY f v fs).map (·.1)/\ ∀g,g∈fs.map (·.1)->g∈(aY f v fs).map (·.1)
 |[]=>⟨by simp[aY],λg h=>by simp at h⟩
 |(k,x)::r=>by
  obtain⟨i1,i2⟩:=Lu f v r;rw[show aY f v _=(if k=f then(k,v)::r else(k,x)::aY f v r) from J];by_cases hk:k=f
  ·rw[aH hk]
   subst hk;exact⟨by simp,λg h=>by simpa using h⟩
  ·rw[ay hk]
   refine⟨?_,λg h=>?_⟩
   ·rw[kr]
    exact gz _ i1
   ·rw[kr] at h⊢
    rcases List.mem_cons.mp h with e|e
    ·exact List.mem_cons.mpr (.inl e)
    ·exact gz _ (i2 g e)
theorem RJ(f:ax)(v:V):∀fs,(aY f v fs).length<=fs.length+1
 |[]=>by simp[aY]
 |(k,x)::r=>by
  have ih:=RJ f v r;rw[show aY f v _=(if k=f then(k,v)::r else(k,x)::aY f v r) from J];by_cases hk:k=f
  ·rw[aH hk,xJ,xJ];omega
  ·rw[ay hk,xJ,xJ];omega
theorem kW.Ng(r:kW (L v) o):∃u,o=L u/\RelV v u:=by
 cases o with
 |none=>exact(show eW from r).elim
 |some u=>exact⟨u,J,r⟩
theorem kW.none_of(r:kW ah o):o=ah:=by
 cases o with
 |none=>rfl
 |some u=>exact(show eW from r).elim
theorem Z'(r:RelV v u):XN u=ao:=by
 cases v with
 |cE=>cases(show u=Cy from r);rfl
 |bl b=>cases(show u=Cw b from r);rfl
 |int i=>obtain⟨t,e⟩:=(show∃t,u=J' i t from r);cases e;rfl
 |str x=>obtain⟨t,e⟩:=(show∃t,u=J_ x t from r);cases e;rfl
 |ny b=>obtain⟨t,e⟩:=(show∃t,u=X3 b t from r);cases e;rfl
 |Gh b=>obtain⟨t,e⟩:=(show∃t,u=X4 b t from r);cases e;rfl
 |ref a=>cases(show u=j3 a from r);rfl
 |ty n=>cases(show u=Aj n from r);rfl
section
variable{P:cN}{w:World}{H H':Hp}{h h':b9}{a C dx:ak}{fs jw:ag (ax×V)}
theorem Lq(bK:eG P w H h)(e:H a=L (.ins C dx fs)):∃mA,xM h a dx C mA/\(∀f,kW (fs.lookup f)<|mA f)/\Pe mA (fs.map (·.1))/\fs.length<=1000/\H dx=L (.own a):=by
 obtain⟨d,z,ne,ob,mA,n,r,q⟩:=(show gO P w H h a (.ins C dx fs) from bK a _ e);exact⟨mA,⟨ob,n,ne⟩,r,q,z,d⟩
end
structure jV(K:aq)(C:ak):Prop where
 pg:JZ K C Str.empty=ao
 hd:O_ K C=ao
 po:XS K C=ao
 sa:vN K (.ref C) "__setattr__"=L (L<|.builtin "object.__setattr__")
theorem jV.get{K:aq}(c:jV K C)(f:ax):JZ K C f=ao:=c.pg
def iq(K:aq)(C:ak)(f:ax):Prop:=vN K (.ref C) f=L ah
theorem iq.taker{K:aq}(n:iq K C f):Pd K C f=L ah:=by
 unfold Pd;rw[show vN K _ f=L ah from n];rfl
structure o_(K:aq)(C:ak)(m:ax)(f:ak):Prop where
 at_:vN K (.ref C) m=L (L<|.ref f)
 fn:Pa K (.ref f)=ao
 kp:jn K (.ref f)=ao
section
variable{X:Cx}{ai:ag (ak×eN)}{σ:St}{H:Hp}{s:de}{a C dx:ak}{fs:ag (ax×V)}{f:ax}{v:V}{A:oa}{E:aE->de->Prop}
theorem QQ(I:Inv X ai σ H s)(e:H a=L (.ins C dx fs))(c:jV X.K C)(n:iq X.K C f)(l:fs.lookup f=L v)
 (h:∀u s',Inv X ai σ H s'->RelV v u->Q u s'):b_ (bX X.prog X.w) A (getAttr (.ref a) f b) Q E s:=by
 obtain⟨mA,i7,r,_,_,_⟩:=Lq I.bK e;obtain⟨u,hu,ru⟩:=kW.Ng (by rw[<-l];exact r f);exact ZM I.iE i7 (c.get f) c.hd n hu (Z' ru)<|h u _ (I.lR _) ru
theorem KS(I:Inv X ai σ H s)(e:H a=L (.ins C dx fs))(c:jV X.K C)(k:o_ X.K C m g)(l:fs.lookup m=ah)
 (h:Q (.ref g,[.ref a]) s):b_ (bX X.prog X.w) A (Gk (.ref a) m pl) Q E s:=by
 obtain⟨mA,i7,r,_,_,_⟩:=Lq I.bK e;have hn:=kW.none_of (by rw[<-l];exact r m);exact ZN I.iE i7 (c.get m) k.at_ k.fn hn h
theorem UX(I:Inv X ai σ H s)(e:H a=L (.ins C dx fs))(c:jV X.K C)(n:iq X.K C f)(hl:fs.length<1000)(ry:RelV y u)
 (h:∀s',Inv X ai σ (aC H a (.ins C dx<|aY f y fs)) s'->Q () s'):b_ (bX X.prog X.w) A (setAttr (.ref a) f u) Q E s:=by
 obtain⟨mA,i7,r,wi,_,ho⟩:=Lq I.bK e;have hz:(fs.map (·.1)).length<=bH:=by rw[hJ,sizeLine_eq];omega
 refine set_map I.iE i7 c.sa c.po n.taker c.hd wi hz λh' O' sb=>h _ ?_;have hd:∃o,h'.get? dx=L o:=let⟨o,_,_,e',_⟩:=O'.ns;⟨o,e'⟩;refine I.vv (by rw[e];exact Cv) (.inr ho) (λb q hb z=>(sb.2 b hb).trans z) hd ?_;refine⟨by rw[bI i7.ne];exact ho,?_,i7.ne,O'.obj,_,O'.ns,λg=>?_,λg hg=>?_⟩
 ·have:=RJ f y fs;omega
 ·show kW _ (if g=f then L u else mA g)
  rw[dm];by_cases q:g=f
  ·rw[aH q,aH q];exact ry
  ·rw[ay q,ay q];exact r g
 ·by_cases q:g=f
  ·rw[q];exact(Lu f y fs).1
  ·refine(Lu f y fs).2 g (wi g λz=>hg ?_)
   show(if g=f then L u else mA g)=ah;rw[ay q];exact z
theorem Inv.made(I:Inv X ai σ H s):Inv X ai σ (aC (aC H s.heap.objs.size (.own<|s.heap.objs.size+1)) (s.heap.objs.size+1)<|.ins C s.heap.objs.size [])
 {s with heap:=(s.heap.push zZ).push (Cg C s.heap.objs.size)}:=by
 have e1:(s.heap.push zZ).get? s.heap.objs.size=L zZ:=o6 s.heap J;have e2:=by
  have:=o6 (s.heap.push zZ) (o:=Cg C s.heap.objs.size) J;rwa[o7] at this
 have e3:(s.heap.push zZ).Ns s.heap.objs.size λ_=>ah:=⟨zZ,#[],_,e1,J,(λe he=>absurd he<|by simp),λ_=>J⟩;have I1:=I.kF (o:=.own<|s.heap.objs.size+1) (t':=s.toks) (λb u q=>iK _ q) (dO _) ⟨_,e1⟩;refine I1.kF (λb u q=>iK _ q) (B6<|o7 _ _) ?_;have ne:s.heap.objs.size≠s.heap.objs.size+1:=jX<|Fl _;refine⟨by rw[bI ne,bp],eI _,ne,e2,λ_=>ah,(Heap.Ns1.of_empty e3).at λo q=>iK _ q,λ_=>Cv,λy hy=>absurd J hy⟩
theorem YE(hb:FJ e f env (da e env)=da e env)
 (h:b_ (bX prog w) A (da e env) (λo eM=>b_ (bX prog w) A (getAttr o f ao) Q E eM) E s):b_ (bX prog w) A (da (.Attribute e f pos) env) Q E s:=Attribute_any_ h<|by rw[arm_eval_Attribute,hb]
end
def cZ(K:aq)(ta:TE)(f:ax):TE:=λσ H Q=>ta σ H λx U=>∃a C dx fs v,x= .ref a/\U a=L (.ins C dx fs)/\jV K C/\iq K C f/\fs.lookup f=L v/\Q v U
def xl(K:aq)(ta tv:TE)(f:ax):TS:=λD σ H=>tv σ H λy U=>ta σ U λx H2=>∃a C dx fs,x= .ref a/\H2 a=L (.ins C dx fs)/\jV K C/\iq K C f/\fs.length<1000/\D.nx σ (aC H2 a (.ins C dx<|aY f y fs))
def WM(X:Cx)(op:Operator)(rd:V->V->Hp->VK->Prop):Prop:=∀ai s(σ:St)H x y u v Q,Inv X ai σ H s->RelV x u->RelV y v->rd x y H Q->b_ (bX X.prog X.w) X.A (GH op u v) (EP X ai σ Q) X.xe s
def sFldAug(K:aq)(ta tv:TE)(rd:V->V->Hp->VK->Prop)(f:ax):TS:=λD σ H=>ta σ H λx U=>∃a C dx fs v,x= .ref a/\U a=L (.ins C dx fs)/\jV K C/\iq K C f/\fs.lookup f=L v/\tv σ U λy H2=>rd v y H2 λz H3=>∃pB jw,H3 a=L (.ins C pB jw)/\jw.length<1000/\D.nx σ (aC H3 a (.ins C pB<|aY f z jw))
section
variable{X:Cx}{o e jB:Expr}{f:ax}{pos oJ zF:gP}{ta tv:TE}
theorem pe_fld(he:PE X e ta)(hb:FJ e f X.env (da e X.env)=da e X.env):PE X (.Attribute e f pos)<|cZ X.K ta f:=by
 intro ai s σ H Q I h;refine YE hb (cj (he ai s σ H _ I h) λu s1⟨x,U,I1,rx,a,C,dx,fs,v,ex,ea,c,n,l,q⟩=>?_);subst ex;obtain rfl:u=j3 a:=rx;exact QQ I1 ea c n l λu' s2 I2 ru=>⟨v,U,I2,ru,q⟩
theorem dH(ha:PE X o ta)(hv:PE X jB tv)(hs:zD jB (L<|.Attribute o f oJ) pos.line X.env=pure aK):PS X (.Assign [.Attribute o f oJ] jB pos)<|xl X.K ta tv f:=by
 intro ai s σ H D I h;refine plainObj_wpAny_Assign_Attribute (cj (hv ai s σ H _ I h) λu s1⟨y,U,I1,ry,q⟩=>cj (ha ai s1 σ U _ I1 q) λov s2⟨x,H2,I2,rx,a,C,dx,fs,ex,ea,c,n,l,q2⟩=>?_) hs;subst ex;obtain rfl:ov=j3 a:=rx;exact UX I2 ea c n l ry λs3 I3=>⟨σ,_,I3,q2⟩
theorem TX(ha:PE X o ta)(hv:PE X jB tv)(hop:WM X op rd):PS X (.AugAssign (.Attribute o f zF) op jB pos)<|sFldAug X.K ta tv rd f:=by
 intro ai s σ H D I h;refine wpAny_AugAssign_AttributeAny (cj (ha ai s σ H _ I h) λov s1⟨x,U,I1,rx,a,C,dx,fs,v,ex,ea,c,n,l,q⟩=>?_);subst ex;obtain rfl:ov=j3 a:=rx;refine QQ I1 ea c n l λu s2 I2 ru=>cj (hv ai s2 σ U _ I2 q) λw3 s3⟨y,H2,I3,ry,q3⟩=>cj (hop ai s3 σ H2 v y u w3 _ I3 ru ry q3) λw4 s4⟨z,H3,I4,rz,pB,jw,ea',l',q4⟩=>?_;exact UX I4 ea' c n l' rz λs5 I5=>⟨σ,_,I5,q4⟩
end
end L2
namespace L2
open PySem PySem.Spec PyProof.Rows
structure fg(k:af)(A:oa):Prop where
 hd:A.handled=ah
 dp:A.depth+3*k+5<My
 un:A.units+16*k+200<ow
theorem fg.aV(r:fg k A)(h:j<=k):fg j A:=⟨r.hd,by have:=r.dp;omega,by have:=r.un;omega⟩
theorem fg.deeper(r:fg (k+1) A)(env:kj):fg k<|A.deeper env:=⟨r.hd,by have:=r.dp;show A.depth+1+3*k+5<_;omega,by have:=r.un;show A.units+3+16*k+200<_;omega⟩
theorem make_depth{A:oa}:(A.under<|.builtin "type.__call__" ⟨.ref C::us,kw⟩).depth=A.depth+1:=by
 first|rfl|simp[Oa,Code.weight,Code.isCreation,Code.isGuard,Code.isCaller,Code.frames,Code.isFrame,guardIds]
theorem make_units{A:oa}:(A.under<|.builtin "type.__call__" ⟨.ref C::us,kw⟩).units=A.units+1:=by
 first|rfl|simp[Oa,Code.cUnits,Code.frames,Code.isFrame]
theorem fg.LH(r:fg (k+1) A)(C:ak)(us:ag aE)(kw:ag<|ax×aE):fg k (A.under<|.builtin "type.__call__" ⟨.ref C::us,kw⟩):=⟨r.hd,by have:=r.dp;rw[make_depth];omega,by have:=r.un;rw[make_units];omega⟩
theorem fg.depth(r:fg k A):A.depth<My:=by have:=r.dp;omega
theorem fg.units(r:fg k A):A.units+64<ow:=by have:=r.un;omega
def b8:TA:=λ_ H Q=>Q [] H
def aU(ta:TE)(tr:TA):TA:=λσ H Q=>ta σ H λx U=>tr σ U λxs H2=>Q (x::xs) H2
section
variable{X:Cx}{e:Expr}{es:ag Expr}{te:TE}{t:TA}{pos:gP}
theorem uH:PA X [] b8:=λ_ _ _ _ H Q I h=>WG ⟨[],H,I,.nil,h⟩
theorem dz(ha:PE X e te)(hr:PA X es t)(hs:dq (e::es) X.env=(aK,da e X.env)::dq es X.env:=by rfl):PA X (e::es)<|aU te t:=by
 intro pos ai s σ H Q I h;rw[hs];refine WE (cj (ha ai s σ H _ I h) λu s1⟨x,U,I1,r1,q1⟩=>?_);exact cj (hr pos ai s1 σ U _ I1 q1) λus s2⟨xs,H2,I2,r2,q2⟩=>⟨x::xs,H2,I2,.cons r1 r2,q2⟩
def kN(t:TA):TE:=λσ H Q=>t σ H λxs U=>xs.length<=bH/\ ∀p,U p=ah->Q (.ref p) (aC U p<|.tup xs)
def IS(t:TA):TE:=λσ H Q=>t σ H λxs U=>xs.length<=bH/\ ∀p,U p=ah->Q (.ref p) (aC U p<|.lst xs)
theorem fO(h:PA X es t):PE X (.Tuple es x1 pos)<|kN t:=by
 intro ai s σ H Q I hq;refine wpAny_Tuple_spliced (cj (h pos ai s σ H _ I hq) λus s1⟨xs,U,I1,r,z,q⟩=>⟨by rw[<-r.length];exact z,?_⟩);have hf:=I1.bK.fresh<|dO _;refine⟨.ref s1.heap.objs.size,aC U s1.heap.objs.size<|.tup xs,I1.kF (λb u e=>iK _ e) (dO _) ?_,J,q _ hf⟩;exact⟨z,us,r,_,o6 _ J,J,_,J⟩
theorem gj(h:PA X es t):PE X (.List es pos)<|IS t:=by
 intro ai s σ H Q I hq;refine wpAny_List_spliced (cj (h pos ai s σ H _ I hq) λus s1⟨xs,U,I1,r,z,q⟩=>⟨by rw[<-r.length];exact z,?_⟩);have hf:=I1.bK.fresh<|dO _;refine⟨.ref s1.heap.objs.size,aC U s1.heap.objs.size<|.lst xs,I1.kF (λb u e=>iK _ e) (dO _) ?_,J,q _ hf⟩;exact⟨z,us,0,r,o6 _ J⟩
end
abbrev Sp:=ag V->Hp->VK->XK->Prop
abbrev og:=ag kj->Hp->de->XK->aE->de->Prop
structure sV(P:cN)(w:World)(K:aq)(mg:ax->aw aE)(base:b9)(A:oa)(bC:ag kj)(s:de)(H:Hp):Prop where
 frames:A.frames=L bC
 gX:Mod K mg base
 bs:∀b o,base.get? b=L o->s.heap.get? b=L o/\H b=ah
 rH:base.objs.size<=s.heap.objs.size
 lq:s.heap.FunFrames base bC
 tW:∀b∈eY bC,H b=ah
 bK:eG P w H s.heap
 eC:sQ s.gens
def CE(bC:ag kj)(P:cN)(w:World)(H:Hp)(s:de)(Q:VK)(u:aE)(s':de):Prop:=∃v H',s'.os=s.os/\sQ s'.gens/\Un (eY bC) [] H H' s.heap s'.heap/\eG P w H' s'.heap/\RelV v u/\Q v H'
def CR(CX:og)(bC:ag kj)(P:cN)(w:World)(H:Hp)(s:de)(Q:VK)(E:XK)(r:Result)(s':de):Prop:=match r with
 | .ok (.ret u)=>CE bC P w H s Q u s'
 | .ok _=>eW
 | .error e=>CX bC H s E e s'
structure aD(P:cN)(w:World)(K:aq)(mg:ax->aw aE)(base:b9)(CX:og)(k:af)(f:ak)(fd:cX)(ps:ag ax)(sp:Sp):Prop where
 bG:∀vs H Q E,sp vs H Q E->vs.length=ps.length
 run:∀A bC s H j4 us vs Q E,fg k A->sV P w K mg base A bC s H->xD s fd j4 (ps.zip us)->cI vs us->sp vs H Q E->tT (bX P w) A (.call (.ref f) j4) (CR CX bC P w H s Q E) s
theorem aD.aV{K:aq}(F:aD P w K mg base CX j f fd ps sp)(h:j<=k):aD P w K mg base CX k f fd ps sp:=⟨F.bG,λA bC s H j4 us vs Q E hr=>F.run A bC s H j4 us vs Q E<|hr.aV h⟩
theorem aD.imp{K:aq}(F:aD P w K mg base CX k f fd ps sp)
 (h:∀vs H Q E,sp' vs H Q E->sp vs H Q E):aD P w K mg base CX k f fd ps sp':=⟨λvs H Q E q=>F.bG vs H Q E<|h _ _ _ _ q,λA bC s H j4 us vs Q E hr he hb hv hs=>F.run A bC s H j4 us vs Q E hr he hb hv<|h _ _ _ _ hs⟩
theorem sV.LH{K:aq}(e:sV P w K mg base A bC s H)(C:ak)(us:ag aE)(kw:ag<|ax×aE):sV P w K mg base (A.under<|.builtin "type.__call__" ⟨.ref C::us,kw⟩) bC s H:=⟨by first|exact e.frames|(simpa [Oa,Code.envs,Code.isFrame,pushEnvs] using e.frames),e.gX,e.bs,e.rH,e.lq,e.tW,e.bK,e.eC⟩
section
variable{X:Cx}{ai:ag (ak×eN)}{σ:St}{H:Hp}{s s':de}
theorem Inv.F'(I:Inv X ai σ H s):sV X.prog X.w X.K X.mg X.base X.A X.stack s H:=⟨I.ok.frames,I.ok.gX,I.bs,dJ I.ok.rH I.sz,I.stack,I.NQ,I.bK,I.eC⟩
theorem Inv.FE(I:Inv X ai σ H s)(h:CE X.stack X.prog X.w H s Q u s'):EP X ai σ Q u s':=by
 obtain⟨v,H',os,eC,un,bK,r,q⟩:=h;obtain⟨hh,g,d,t,os'⟩:=s';obtain rfl:os'=s.os:=os;exact⟨v,H',I.call un bK eC λb z=>absurd z<|by simp,r,q⟩
end
def d8(sp:Sp)(iO:ag V)(E:XK)(t:TA):TE:=λσ H Q=>t σ H λvs U=>sp (vs++iO) U Q E
def eu(C:ak)(m:ax)(sp:Sp)(iO:ag V)(E:XK)(ta:TE)(t:TA):TE:=λσ H Q=>ta σ H λx U=>∃a dx fs,x= .ref a/\U a=L (.ins C dx fs)/\fs.lookup m=ah/\t σ U λvs H2=>sp (x::(vs++iO)) H2 Q E
def NY(C:ak)(sp:Sp)(iO:ag V)(E:XK)(t:TA):TE:=λσ H Q=>t σ H λvs U=>∀x dx,U x=ah->U dx=ah->dx≠x->sp (.ref x::(vs++iO)) (aC (aC U dx<|.own x) x<|.ins C dx []) (λv H2=>v= .cE/\Q (.ref x) H2) E
def Binds(K:aq)(fd:cX)(ps:ag ax)(ds:ag aE):Prop:=∀s us,K.In s.heap->(us++ds).length=ps.length->xD s fd ⟨us,[]⟩ (ps.zip<|us++ds)
theorem Binds.all{K:aq}(h:∀us,us.length=ps.length->rF fd ⟨us,[]⟩=pure (ps.zip us)):Binds K fd ps []:=λs us _ hl=>by
 rw[o8] at hl⊢;exact .of_eq<|h us hl
def lV(CX:og)(X:Cx)(E:XK):Prop:=∀ai(σ:St)H s e s',Inv X ai σ H s->CX X.stack H s E e s'->X.xe e s'
section
variable{X:Cx}{CX:og}{k:af}{f C:ak}{fd:cX}{ps:ag ax}{sp:Sp}{iO:ag V}{ds:ag aE}{E:XK}{x m:ax}{p pos kY:gP}{e o:Expr}{es:ag Expr}{ta:TE}{t:TA}
theorem Bp{σ:St}(F:aD X.prog X.w X.K X.mg X.base CX k f fd ps sp)(hr:fg k X.A)(hb:Binds X.K fd ps ds)(hd:cI iO ds)(hx:lV CX X E)
 (I:Inv X ai σ H s) (r:cI vs us) (h:sp (vs++iO) H Q E):b_ (bX X.prog X.w) X.A (call (.ref f) us) (EP X ai σ Q) X.xe s:=by
 have r2:=r.append hd;have hl:(us++ds).length=ps.length:=by rw[<-r2.length];exact F.bG _ _ _ _ h
 refine N7 (yn (F.run X.A X.stack s H ⟨us,[]⟩ _ _ Q E hr I.F' (hb s us I.iE hl) r2 h) λr s' hq=>?_)
 cases r with
 |error e=>exact hx ai σ H s e s' I hq
 |ok fl=>
  cases fl with
  |ret u=>exact I.FE hq
  |next=>exact g_ hq
  |brk=>exact g_ hq
  |cont=>exact g_ hq
theorem cJ(F:aD X.prog X.w X.K X.mg X.base CX k f fd ps sp)(hr:fg k X.A)(hg:Gl X x)(hm:X.mg x=L (.ref f))(hk:jn X.K (.ref f)=ao)(hb:Binds X.K fd ps ds)(hd:cI iO ds)(hx:lV CX X E)
 (ha:PA X (e::es) t) (oE:(x=="__debug__")=aK:=by decide) (he:dq (e::es) X.env=(aK,da e X.env)::dq es X.env:=by rfl) (fj:(jr pos<|dq es X.env).any (·.1)=aK:=by rfl):
 PE X (.Call (.Name x p) (e::es) [] pos)<|d8 sp iO E t:=by
 intro ai s σ H Q I h;refine EX<|yN I hg hm ?_ oE;refine zY I.ok.gX.rZ hk (cj (ha pos ai s σ H _ I h) λus s1⟨vs,U,I1,r,q⟩=>⟨I1.iE,?_⟩) he fj;exact Bp F hr hb hd hx I1 r q
theorem HC(F:aD X.prog X.w X.K X.mg X.base CX k f fd ps sp)(hr:fg k X.A)(hg:Gl X x)(hm:X.mg x=L (.ref f))(hk:jn X.K (.ref f)=ao)(hb:Binds X.K fd ps ds)(hd:cI iO ds)(hx:lV CX X E)
 (oE:(x=="__debug__")=aK:=by decide):PE X (.Call (.Name x p) [] [] pos)<|d8 sp iO E b8:=by
 intro ai s σ H Q I h;refine EX<|yN I hg hm ?_ oE;exact XI I.iE hk<|Bp F hr hb hd hx I .nil h
theorem bV{pl:Sem c_}(he:PE X o ta)(c:jV X.K C)(hm:o_ X.K C m f)(F:aD X.prog X.w X.K X.mg X.base CX k f fd ps sp)(hr:fg k X.A)(hb:Binds X.K fd ps ds)(hd:cI iO ds)(hx:lV CX X E)(ha:PA X (e::es) t)
 (fF:dq (e::es) X.env=(aK,da e X.env)::dq es X.env:=by rfl) (fj:(jr pos<|dq es X.env).any (·.1)=aK:=by rfl)
 (ht:da (.Call (.Attribute o m kY) (e::es) [] pos) X.env=(do
   let ov<-da o X.env
   IJ kY.atName
   let(f,first)<-AM [ov] (Gk ov m pl)
   FQ pos f first (jr pos<|dq (e::es) X.env) (CH pos<|Dv [] X.env)):=by rfl):
 PE X (.Call (.Attribute o m kY) (e::es) [] pos)<|eu C m sp iO E ta t:=by
 intro ai s σ H Q I h;refine Pb (cj (he ai s σ H _ I h) λu s1⟨x,U,I1,rx,a,dx,fs,ex,ea,l,q⟩=>?_) ht;subst ex;obtain rfl:u=j3 a:=rx;refine KS I1 ea c hm l ?_;refine zY I.ok.gX.rZ hm.kp (cj (ha pos ai s1 σ U _ I1 q) λus s2⟨vs,H2,I2,r,q2⟩=>⟨I2.iE,?_⟩) fF fj;exact Bp (vs:=.ref a::vs) F hr hb hd hx I2 (.cons J r) q2
theorem ee(he:PE X o ta)(c:jV X.K C)(hm:o_ X.K C m f)(F:aD X.prog X.w X.K X.mg X.base CX k f fd ps sp)(hr:fg k X.A)(hb:Binds X.K fd ps ds)(hd:cI iO ds)(hx:lV CX X E)
 (ht:da (.Call (.Attribute o m kY) [] [] pos) X.env=(do
   let ov<-da o X.env
   IJ kY.atName
   let(f,first)<-AM [ov] (Gk ov m pl)
   FQ pos f first (jr pos<|dq [] X.env) (CH pos<|Dv [] X.env)):=by rfl):
 PE X (.Call (.Attribute o m kY) [] [] pos)<|eu C m sp iO E ta b8:=by
 intro ai s σ H Q I h;refine Pb (cj (he ai s σ H _ I h) λu s1⟨x,U,I1,rx,a,dx,fs,ex,ea,l,q⟩=>?_) ht;subst ex;obtain rfl:u=j3 a:=rx;refine KS I1 ea c hm l ?_;exact XI I1.iE hm.kp<|Bp (vs:=[.ref a]) F hr hb hd hx I1 (.cons J .nil) q
structure Mk(K:aq)(C f:ak):Prop where
 makes:XR K C=ao
 init:vN K (.ref C) "__init__"=L (L<|.ref f)
 fn:Pa K (.ref f)=ao
 kp:jn K (.ref C)=ao
theorem run_make{σ:St}(aJ:Mk X.K C f)(F:aD X.prog X.w X.K X.mg X.base CX k f fd ps sp)(hr:fg (k+1) X.A)(hb:Binds X.K fd ps ds)(hd:cI iO ds)
 (hx:lV CX X E) (I:Inv X ai σ H s) (r:cI vs us)
 (h:∀x dx,H x=ah->H dx=ah->dx≠x->sp (.ref x::(vs++iO)) (aC (aC H dx<|.own x) x<|.ins C dx []) (λv H2=>v= .cE/\Q (.ref x) H2) E):
 b_ (bX X.prog X.w) X.A (call (.ref C) us) (EP X ai σ Q) X.xe s:=by
 have hq:=h _ s.heap.objs.size (I.bK.fresh<|JK _) (I.bK.fresh<|dO _) (jX<|Fl _);have I2:=Inv.made (C:=C) I;have r2:cI (V.ref (s.heap.objs.size+1)::_) _:=.cons J<|r.append hd;have hl:=by
  have e:=r2.length;rw[F.bG _ _ _ _ hq] at e;exact e.symm
 refine N7<|make_map I.iE aJ.makes aJ.init (beq_iff_eq.mp aJ.fn) (yn (F.run _ X.stack _ _ ⟨j3 _::us,[]⟩ _ _ _ E (hr.LH C us [])
  (I2.F'.LH C us []) (hb _ _ I2.iE hl) r2 hq) λr s' wB=>?_)
 cases r with
 |error e=>exact hx ai σ _ _ e s' I2 wB
 |ok fl=>
  cases fl with
  |ret u=>
   obtain⟨v,H',I3,rv,ev,q3⟩:=I2.FE wB;subst ev;exact⟨rv,V.ref _,H',I3,J,q3⟩
  |next=>exact g_ wB
  |brk=>exact g_ wB
  |cont=>exact g_ wB
theorem oI(aJ:Mk X.K C f)(F:aD X.prog X.w X.K X.mg X.base CX k f fd ps sp)(hr:fg (k+1) X.A)(hg:Gl X x)(hm:X.mg x=L (.ref C))(hb:Binds X.K fd ps ds)(hd:cI iO ds)(hx:lV CX X E)
 (ha:PA X (e::es) t) (oE:(x=="__debug__")=aK:=by decide) (he:dq (e::es) X.env=(aK,da e X.env)::dq es X.env:=by rfl) (fj:(jr pos<|dq es X.env).any (·.1)=aK:=by rfl):
 PE X (.Call (.Name x p) (e::es) [] pos)<|NY C sp iO E t:=by
 intro ai s σ H Q I h;refine EX<|yN I hg hm ?_ oE;refine zY I.ok.gX.rZ aJ.kp (cj (ha pos ai s σ H _ I h) λus s1⟨vs,U,I1,r,q⟩=>⟨I1.iE,?_⟩) he fj;exact run_make aJ F hr hb hd hx I1 r q
end
structure bE(N P:ag ax)(sc:lZ):Prop where
 kind:sc.kind= .function
 co:sc.isCoroutine=aK
 AA:sc.isGenerator=aK
 nd:N.Nodup
 pre:N.take P.length=P
 HB:∀x∈P,sc.names.lookup x=L .local\/sc.names.lookup x=L .cell
 SD:∀y∈sc.names,y.2≠ .free
theorem PR{kindOf:ax->aw mQ}:∀{vY:ag (ax×aE)}{m:ax->aw aE},(∀v,(x,v)∉vY)->yj kindOf vY m x=m x
 |[],_,_=>rfl
 |(n,v)::r,m,h=>by
  unfold yj;rw[PR λw hw=>h w<|gz _ hw]
  split
  ·have:x≠n:=by rintro rfl;exact h v ik
   simp[this]
  ·rfl
theorem PQ{kindOf:ax->aw mQ}:∀{vY:ag (ax×aE)}{m:ax->aw aE},(∀v,(x,v)∉vY)->yi kindOf vY m x=m x
 |[],_,_=>rfl
 |(n,v)::r,m,h=>by
  unfold yi;rw[PQ λw hw=>h w<|gz _ hw]
  split
  ·rfl
  ·have:x≠n:=by rintro rfl;exact h v ik
   simp[this]
theorem Kg{kindOf:ax->aw mQ}:∀{P:ag ax}{vs:ag aE}{i:af}{m:ax->aw aE},P.Nodup->P[i]? =L x->vs[i]? =L v->kindOf x=L .local->yj kindOf (P.zip vs) m x=L v
 |[],_,_,_,_,h,_,_=>by simp at h
 |_::_,[],_,_,_,_,h,_=>by simp at h
 |p::P,w::vs,0,m,nd,h1,h2,hk=>by
  simp at h1 h2;subst h1;subst h2;show yj kindOf (_::P.zip vs) m p=_;unfold yj;rw[PR λv hv=>(List.nodup_cons.mp nd).1 (JF hv).1,aH hk];simp
 |p::P,w::vs,i+1,m,nd,h1,h2,hk=>by
  unfold yj;exact Kg (List.nodup_cons.mp nd).2 (by simpa using h1) (by simpa using h2) hk
theorem Kf{kindOf:ax->aw mQ}:∀{P:ag ax}{vs:ag aE}{i:af}{m:ax->aw aE},P.Nodup->P[i]? =L x->vs[i]? =L v->kindOf x≠L .local->yi kindOf (P.zip vs) m x=L v
 |[],_,_,_,_,h,_,_=>by simp at h
 |_::_,[],_,_,_,_,h,_=>by simp at h
 |p::P,w::vs,0,m,nd,h1,h2,hk=>by
  simp at h1 h2;subst h1;subst h2;show yi kindOf (_::P.zip vs) m p=_;unfold yi;rw[PQ λv hv=>(List.nodup_cons.mp nd).1 (JF hv).1,ay hk];simp
 |p::P,w::vs,i+1,m,nd,h1,h2,hk=>by
  unfold yi;exact Kf (List.nodup_cons.mp nd).2 (by simpa using h1) (by simpa using h2) hk
def start(N:ag ax)(vs:ag V):St:=vs.map L++zR (N.length-vs.length) ah
def l_(CX:og)(P:cN)(w:World)(K:aq)(mg:ax->aw aE)(base:b9)(N:ag ax)(di:ax)(aT:lZ)(f:ak)(cd:aE)(A:oa)(bC:ag kj)(s:de)(H:Hp)(E:XK):Cx where
 prog:=P
 w:=w
 K:=K
 mg:=mg
 base:=base
 A:=A.deeper (md di aT s.heap.objs.size f cd)
 N:=N
 gF:=s
 sX:=H
 env:=md di aT s.heap.objs.size f cd
 bC:=bC
 stack:=md di aT s.heap.objs.size f cd::bC
 ex:=[]
 j6:=ao
 fn:=λ_=>ao
 pn:=[]
 xe:=λe s'=>b_ (bX P w) (A.deeper<|md di aT s.heap.objs.size f cd) (Lx (md di aT s.heap.objs.size f cd) e) (λ_ uS=>CX bC H s E e uS) (λe' uS=>CX bC H s E e' uS) s'
theorem FT{sc:lZ}(h:sc.names.lookup x=L .cell):∃c,(iz n sc.names []).lookup x=L c:=by
 have q:=O9 sc.names n []<|.inl h;exact Option.isSome_iff_exists.mp q
theorem inv_start{K:aq}
 (S:bE N ps aT) (hd:A.handled=ah) (e0:sV P w K mg base A bC s H) (hl:vs.length=ps.length) (r:cI vs us)
 (x:InCallC s s.heap.objs.size (yj (md di aT s.heap.objs.size f cd).kindOf (ps.zip us) λ_=>ah) (iz (s.heap.objs.size+1) aT.names []) (yi (md di aT s.heap.objs.size f cd).kindOf (ps.zip us) λ_=>ah) s1):
 Inv (l_ CX P w K mg base N di aT f cd A bC s H E) [] (start N vs) H s1:=by
 have fj:=by have:=gH JD S.pre;rw[km] at this;omega
 obtain⟨h1,tk,rfl,hk⟩:=x.done;have sk:∀b,b∉(l_ CX P w K mg base N di aT f cd A bC s H E).ex:=λb z=>absurd (show b∈[] from z)<|by simp
 refine⟨⟨e0.gX,S.kind,J,J,dO _,λy z c h1 h2=>?_,λy hy=>?_,λy c _ h=>?_,λ_=>hd,Wt e0.frames,.inr ⟨J,J⟩,λb z=>absurd z<|sk b,e0.bs,e0.rH,λb _ _=>sk b,λb z=>absurd z<|sk b,e0.lq,e0.tW⟩,J,e0.eC,Un.kept hk,⟨_,x.toInCall.ns,λi y v h1 h2 h3=>?_⟩,λy c h=>⟨_,x.cell y c h⟩,e0.bK.fresh<|dO _,λy c h=>?_,λp hp=>absurd (show p∈[] from hp)<|by simp,e0.bK.kept hk,?_⟩
 ·exact name_of_addr x.apart (jE h1)<|jE h2
 ·have hy:=hy
  rcases hy with hy|hy
  ·exact FT hy
  ·exact absurd J (S.SD _<|jE hy)
 ·exact B7 (x.above y c<|jE h)
 ·have hi:i<vs.length:=by
   unfold start at h2;by_cases hi:i<vs.length
   ·exact hi
   ·rw[Ox<|by simpa using hi] at h2
    rw[W_] at h2
    split at h2<;>cases h2
  have ha:vs[i]? =L v:=by
   unfold start at h2;rw[W8<|by simpa using hi,mO] at h2
   cases e:vs[i]? with
   |none=>rw[e] at h2;cases h2
   |some a=>rw[e] at h2;cases h2;rfl
  obtain⟨u,hu,rv⟩:=r.get ha;have hp:ps[i]? =L y:=by
   rw[<-S.pre,Xa om];exact h1
  have DM:ps.Nodup:=by rw[<-S.pre];exact S.nd.sublist<|Xd _ _
  refine⟨u,rv,?_⟩;rcases S.HB y (jW hp) with k|k
  ·exact .inl ⟨k,Kg DM hp hu k⟩
  ·obtain⟨c,e⟩:=FT k
   refine .inr ⟨.inl k,c,e,?_⟩;have q:=x.cell y c e;rw[Kf DM hp hu (by show aT.names.lookup y≠_;rw[k];decide)] at q;exact q
 ·exact e0.bK.fresh<|B7 (x.above y c<|jE h)
 ·unfold start
  show _=N.length;rw[iL,hJ,Xc];omega
theorem QE{K:aq}{dV kV dR pm cG ct oc:aE}
 (lk:K.lookup f=L ⟨oc,od,.func<|oz gE di params body aT dV kV dR pm an cG ct,uG⟩) (me:FW K cG di=ao) (S:bE N ps aT)
 (bG:∀vs H Q E,sp vs H Q E->vs.length=ps.length)
 (yA:∀A bC s H vs Q E,fg k (A.deeper<|md di aT s.heap.objs.size f cG)->sp vs H Q E-> ∃t,iX (l_ CX P w K mg base N di aT f cG A bC s H E) body t/\t {nx:=λ_ H'=>Q .cE H',rt:=Q} (start N vs) H):
 aD P w K mg base CX (k+1) f (oz gE di params body aT dV kV dR pm an cG ct) ps sp:=by
 refine⟨bG,λA bC s H j4 us vs Q E hr e0 hb r iD=>?_⟩;have hl:=bG _ _ _ _ iD;have KX:=e0.gX.rZ.keeps λb o e=>(e0.bs b o e).1;have j_:=e0.gX.nolimit.keeps λb o e=>(e0.bs b o e).1;have Ld:∀y∈ps.zip us,aT.names.lookup y.1=L .local\/(aT.names.lookup y.1=L .cell/\((iz (s.heap.objs.size+1) aT.names []).lookup y.1).isSome=ao):=λ⟨n,v⟩hy=>by
  rcases S.HB n (JF hy).1 with q|q
  ·exact .inl q
  ·exact .inr ⟨q,O9 _ _ _ (.inl q)⟩
 refine Y2 hr.depth (KX _ _ lk) J S.co S.AA J (XJ KX me) (hb _ _ _ _ ?_);refine wpAny_newFunctionEnv_cells S.kind Ld λenv he s1 x=>?_;subst he;refine⟨j_.keeps x.toInCall.keep,codeAny_func ?_⟩;obtain⟨t,ht,hq⟩:=yA A bC s H vs Q E (hr.deeper _) iD;have I:Inv (l_ CX P w K mg base N di aT f cG A bC s H E) [] (start N vs) H s1:=inv_start S hr.hd e0 hl r x;refine kO (ht [] s1 (start N vs) H _ I hq) (λfl s' hs=>?_) λe s' hs=>hs;have dj:∀{aS:St}{H':Hp}{v:V}{u:aE},Inv (l_ CX P w K mg base N di aT f cG A bC s H E) [] aS H' s'->RelV v u->Q v H'->CE bC P w H s Q u s':=λ{aS H' v u}cz rv q=>⟨v,H',cz.os,cz.eC,cz.base,cz.bK,rv,q⟩
 cases fl with
 |ret u=>
  obtain⟨v,aS,H',cz,rv,q⟩:=hs;exact dj cz rv q
 |next=>
  obtain⟨aS,H',cz,q⟩:=hs;exact dj (v:=V.cE) cz J q
 |brk=>
  obtain⟨_,_,_,q⟩:=hs;exact g_ q
 |cont=>
  obtain⟨_,_,_,q⟩:=hs;exact g_ q
end L2
namespace L2
open PySem PySem.Spec PyProof.Rows
section
variable{X:Cx}{x:ax}{p pos:gP}{e:Expr}{es:ag Expr}{t:TA}{id T:yf}{r:ag V->Hp->VK->Prop}
def xy(r:ag V->Hp->VK->Prop)(t:TA):TE:=λσ H Q=>t σ H λvs U=>r vs U Q
theorem jy(hc:vC X (.builtin id) r)(hg:Gl X x)(hm:X.mg x=ah)(hv:CL x=L (.builtin id))(ha:PA X (e::es) t)(hn:x≠"__name__":=by decide)(oE:(x=="__debug__")=aK:=by decide)
 (he:dq (e::es) X.env=(aK,da e X.env)::dq es X.env:=by rfl) (fj:(jr pos<|dq es X.env).any (·.1)=aK:=by rfl):PE X (.Call (.Name x p) (e::es) [] pos)<|xy r t:=by
 intro ai s σ H Q I h;refine EX<|DD I hg hm hv ?_ hn oE;exact PyProof.Rows.callWith_builtin1 (cj (ha pos ai s σ H _ I h) λus s1⟨vs,U,I1,r1,q1⟩=>hc ai s1 σ U vs us Q I1 r1 q1) he fj
theorem nU(hc:vC X (.type T) r)(hg:Gl X x)(hm:X.mg x=ah)(hv:CL x=L (.type T))(ha:PA X (e::es) t)(hn:x≠"__name__":=by decide)(oE:(x=="__debug__")=aK:=by decide)
 (he:dq (e::es) X.env=(aK,da e X.env)::dq es X.env:=by rfl) (fj:(jr pos<|dq es X.env).any (·.1)=aK:=by rfl):PE X (.Call (.Name x p) (e::es) [] pos)<|xy r t:=by
 intro ai s σ H Q I h;refine EX<|DD I hg hm hv ?_ hn oE;exact JV (cj (ha pos ai s σ H _ I h) λus s1⟨vs,U,I1,r1,q1⟩=>hc ai s1 σ U vs us Q I1 r1 q1) he fj
end
end L2
namespace HT
open PySem PyProof.Rows
section
variable{prog:cN}{w:World}{A:oa}{E:aE->de->Prop}{s:de}
theorem Y1(ht:IsTup s.heap t vs.toArray)(hb:IsTup s.heap b ws.toArray)(hv:vs≠[])
 (h1:ws=[]->Q (.ref t) s) (h2:ws≠[]->Q (.ref s.heap.objs.size) {s with heap:=s.heap.push {cls:=.type "tuple",data:=.seq (vs++ws).toArray}})
 (nJ:vs.length+ws.length<=bH):b_ (bX prog w) A (nr .Add (.ref t)<|.ref b) Q E s:=by
 obtain⟨⟨df,dd,data,sl⟩,ho,hc,n,hd⟩:=id ht;obtain⟨⟨cls2,dd2,data2,xp⟩,ho2,hc2,n2,pC⟩:=id hb;subst hc hd hc2 pC;have e:vs.toArray++ws.toArray=(vs++ws).toArray:=by simp
 by_cases hw:ws=[]
 ·exact concat_meets ⟨_,ho,J⟩ ⟨_,ho2,J⟩ noFill_tuple_add seq_tuple_add XG XF (XE _ _)
   (tuple_addW1 t b vs.toArray ws.toArray n n2 dd dd2 sl xp (by simpa using hv)<|by simp[hw]) ⟨ho,ho2,h1 hw⟩
 ·refine concat_meets ⟨_,ho,J⟩ ⟨_,ho2,J⟩ noFill_tuple_add seq_tuple_add XG XF (XE _ _)
   (tuple_addW2 t b vs.toArray ws.toArray n n2 dd dd2 sl xp (by simpa using hv) (by simpa using hw) (by rw[gk,gk];exact nJ)) ⟨ho,ho2,?_⟩
  rw[e];exact h2 hw
def eQ(n d:af):aw ae->af
 |none=>d
 |some v=>if v<0 then(v+n).toNat else min v.toNat n
theorem sIx_le(n d:af)(hd:d<=n)(o:aw ae):eQ n d o<=n:=by
 cases o with
 |none=>exact hd
 |some v=>
  show(if v<0 then(v+n).toNat else min v.toNat n)<=n;by_cases hv:v<0
  ·rw[aH hv];omega
  ·rw[ay hv];exact Xr _ _
theorem P9(v:ae)(n d:af):(if v<0 then max (v+n) 0 else min v n)=(eQ n d (L v):af):=by
 show(if v<0 then max _ 0 else min v n)=((if v<0 then(v+(n:ae)).toNat else min v.toNat n):af);by_cases hv:v<0
 ·simp only[aH hv];omega
 ·simp[ay hv];omega
theorem Yh(lo hi:aw ae)(n:af):Oe lo hi 1 n=(((eQ n 0 lo):ae),((eQ n n hi):ae)):=by
 have h1:=by omega
 unfold Oe;refine Prod.ext ?_ ?_
 ·cases lo with
  |none=>rfl
  |some v=>exact P9 v n 0
 ·cases hi with
  |none=>rfl
  |some v=>exact P9 v n n
theorem places_gen(i j:af):Of i j 1=j-i:=by
 unfold Of
 split<;>omega
theorem U3(p:IsPart v o)(h:Q o s):b_ (bX prog w) A (Builtin.Slice.slicePartIndex v) Q E s:=by
 cases p with
 |none=>exact slicePart_none h
 |int i t=>exact slicePart_int h
theorem sliceApplied_gen{lo hi:aw ae}{n:af}(hs:s.heap.IsSliceOf sl vl vu .none)(pl:IsPart vl lo)(pu:IsPart vu hi)
 (h:Q ((eQ n 0 lo:af),1,eQ n n hi-eQ n 0 lo) s):b_ (bX prog w) A (Builtin.Slice.sliceApplied (.ref sl)<|pure n) Q E s:=by
 obtain⟨os,hos,hcs,AG⟩:=id hs;refine dh<|dh (BJ hos AG J<|dh (BJ hos AG J<|dh (BJ hos AG J<|gc ?_)));refine dh<|slicePart_none ?_;refine dh (U3 pl (dh<|U3 pu (dh<|gc ?_)));show b_ _ _ (match Oe lo hi 1 n with|(lo,hi)=>pure (lo,(1:ae),Of lo hi 1)) _ _ s;rw[Yh lo hi n];show b_ _ _ (pure _) _ _ s;rw[places_gen];exact gc h
theorem pick_gen(xs:jC aE)(i k:af):((il k).filterMap λ(m:af)=>xs[(i+(m:ae)*1).toNat]?).toArray=((xs.toList.drop i).take k).toArray:=by
 have e:(λ(m:af)=>xs[(i+(m:ae)*1).toNat]?)=λm=>xs[i+m]? :=by
  funext m
  have:(i+(m:ae)*1).toNat=i+m:=by omega
  rw[this]
 rw[e];have:=pick_run xs i k;rw[List.filterMap_map] at this;have e2:((λx=>xs[x]?)∘λx=>i+x)=λm=>xs[i+m]? :=J;rw[e2] at this;rw[this]
theorem ZL{lo hi:aw ae}(ht:IsTup s.heap t gC)(hs:s.heap.IsSliceOf sl vl vu .none)(pl:IsPart vl lo)(pu:IsPart vu hi)
 (hw:¬(eQ gC.size 0 lo=0/\eQ gC.size gC.size hi=gC.size))
 (h:Q (.ref s.heap.objs.size) {s with heap:=s.heap.push {cls:=.type "tuple",data:=.seq ((gC.toList.drop<|eQ gC.size 0 lo).take<|eQ gC.size gC.size hi-eQ gC.size 0 lo).toArray}})
 (nJ:gC.size<=bH):b_ (bX prog w) A (yx (.ref t)<|.ref sl) Q E s:=by
 have GC:=by
  show((gC.toList.drop<|eQ gC.size 0 lo).take<|eQ gC.size gC.size hi-eQ gC.size 0 lo).toArray.size<=bH;rw[gk,km,B1,Ob];omega
 obtain⟨os,hos,hcs,AG⟩:=id hs;have Z5:s.TypeIs (.ref sl) "slice":=⟨os,hos,hcs⟩;unfold yx
 try with_reducible refine N8 ?_
 refine dh<|wpAny_sequenceKey ht.typeIs dc ?_
 refine dh (wpAny_callSpecial?_slot ht.typeIs XD
  (wpAny_call_entry XD ht.typeIs entry_tuple_getitem ?_<|args_tuple_getitem _ _))
 show b_ _ _ (Builtin.Tuple.tupleItemsOf _>>=_) _ _ s;refine dh<|tupleItemsOf_ ht ?_;refine dh<|wpAny_typeOf Z5 ?_;refine dh<|sliceApplied_gen hs pl pu ?_;have hno:¬((((eQ gC.size 0 lo):ae)==0&&(1:ae)==1&&(eQ gC.size gC.size hi-eQ gC.size 0 lo)==gC.size)=ao):=by
  intro q;rw[eR,eR] at q;have q1:=eq_of_beq q.1.1;have q2:=eq_of_beq q.2;exact hw ⟨om,om⟩
 show b_ _ _ (if _=ao then _ else _) _ _ s;rw[ay hno,pick_gen]
 first
  |exact dh<|EY (gc ⟨_,J,gc h⟩) GC
  |exact dh<|EY (dh (gc<|gc ⟨_,J,gc h⟩)) GC
  |exact dh (dh<|EY (gc<|gc ⟨_,J,gc h⟩) GC)
  |exact dh (dh<|EY (gc ⟨_,J,gc h⟩) GC)
end
end HT
namespace L2
open PySem PySem.Spec PyProof.Rows
abbrev TO:=St->Hp->(aw ae->Hp->Prop)->Prop
def PO(X:Cx)(e:aw Expr)(t:TO):Prop:=∀ai s(σ:St)H Q,Inv X ai σ H s->t σ H Q->b_ (bX X.prog X.w) X.A (evalPart e X.env) (λu s'=>∃o H',Inv X ai σ H' s'/\IsPart u o/\Q o H') X.xe s
def qO(t:TE):TO:=λσ H Q=>t σ H λx U=>∃i,x= .int i/\Q (L i) U
section
variable{X:Cx}{e:Expr}{te:TE}{lo hi:aw Expr}{tl th:TO}{pos p2:gP}
theorem gb(h:PE X e te):PO X (L e)<|qO te:=by
 intro ai s σ H Q I hw;refine cj (h ai s σ H _ I hw) λu s1⟨x,U,I1,r1,q1⟩=>?_;obtain⟨i,rfl,q⟩:=q1;obtain⟨t,rfl⟩:=r1;exact⟨L i,U,I1,.int i t,q⟩
def ye(X:Cx)(r:V->aw ae->aw ae->Hp->VK->Prop):Prop:=∀ai s(σ:St)H x v vl vu lo hi sl Q,Inv X ai σ H s->RelV x v->s.heap.IsSliceOf sl vl vu .none->IsPart vl lo->IsPart vu hi->r x lo hi H Q-> ∃T id,typeLookup (.type T) "__getitem__"=pure (L<|.builtin id)/\s.TypeIs v T/\b_ (bX X.prog X.w) X.A (yx v<|.ref sl) (EP X ai σ Q) X.xe s
theorem ye.or(h:ye X r)(h':ye X r'):ye X λx lo hi H Q=>r x lo hi H Q\/r' x lo hi H Q:=by
 intro ai s σ H x v vl vu lo hi sl Q I rx hs pl pu q;rcases q with q|q
 ·exact h ai s σ H x v vl vu lo hi sl Q I rx hs pl pu q
 ·exact h' ai s σ H x v vl vu lo hi sl Q I rx hs pl pu q
def BG(r:V->aw ae->aw ae->Hp->VK->Prop)(te:TE)(tl th:TO):TE:=λσ H Q=>te σ H λx U=>tl σ U λl H2=>th σ H2 λu H3=>r x l u H3 Q
theorem lJ(hr:ye X r)(he:PE X e te)(hl:PO X lo tl)(hu:PO X hi th):PE X (.Subscript e (.Slice lo hi ah p2) pos)<|BG r te tl th:=by
 intro ai s σ H Q I h;refine Pu (cj (he ai s σ H _ I h) λv s1⟨x,U,I1,r1,q1⟩=>?_);refine wpAny_Slice (cj (hl ai s1 σ U _ I1 q1) λvl s2⟨l,H2,I2,pl,q2⟩=>cj (hu ai s2 σ H2 _ I2 q2) λvu s3⟨u,H3,I3,pu,q3⟩=>?_);refine gc ?_;have I4:Inv X ai σ H3 {s3 with heap:=s3.heap.push {cls:=.type "slice",data:=.fields #[vl,vu,.none]}}:=I3.kept λb ob q=>iK _ q;obtain⟨T,id,hT,ht,hg⟩:=hr ai {s3 with heap:=s3.heap.push {cls:=.type "slice",data:=.fields #[vl,vu,.none]}} σ H3 x v vl vu l u s3.heap.objs.size Q I4 r1 (Heap.IsSliceOf.new ..) pl pu q3;exact tail_any ht hT hg<|by with_unfolding_all rfl
def qk(xs:ag V)(lo hi:aw ae):ag V:=(xs.drop<|HT.eQ xs.length 0 lo).take<|HT.eQ xs.length xs.length hi-HT.eQ xs.length 0 lo
theorem Qc(xs:ag V)(lo hi:aw ae):(qk xs lo hi).length<=xs.length:=by
 unfold qk;rw[km,B1];omega
def T9(K:aq):V->aw ae->aw ae->Hp->VK->Prop:=λx lo hi H Q=>∃a xs,x= .ref a/\cD K H a xs/\ ¬(HT.eQ xs.length 0 lo=0/\HT.eQ xs.length xs.length hi=xs.length)/\ ∀p,H p=ah->Q (.ref p) (aC H p (.tup<|qk xs lo hi))
theorem xq:ye X<|T9 X.K:=by
 intro ai s σ H x v vl vu lo hi sl Q I rx hs pl pu h;obtain⟨a,xs,rfl,hx,hw,q⟩:=h
 cases rx
 obtain⟨aZ,r,ht,hz⟩:=I.tuple hx;have dG:aZ.toArray.size=xs.length:=by rw[gk];exact r.length.symm
 refine⟨"tuple",_,PyProof.Rows.slot_tuple_getitem.lookup,ht.typeIs,?_⟩;refine HT.ZL ht hs pl pu (by rw[dG];exact hw) ?_ (by rw[dG];exact hz);rw[dG];refine⟨.ref s.heap.objs.size,_,I.kF (λb ob q=>iK _ q) (dO _) ?_,J,q _ (I.bK.fresh<|dO _)⟩;exact⟨dJ (Qc xs lo hi) hz,_,(r.drop _).take _,Oq _ _⟩
def T5(K:aq):R2:=λx y H Q=>∃a b xs ys,x= .ref a/\y= .ref b/\cD K H a xs/\cD K H b ys/\xs≠[]/\xs.length+ys.length<=bH/\(ys=[]->Q (.ref a) H)/\(ys≠[]-> ∀p,H p=ah->Q (.ref p) (aC H p (.tup<|xs++ys)))
theorem cI.LQ(r:cI xs us):us=[]↔xs=[]:=by
 cases r with
 |nil=>simp
 |cons _ _=>simp
theorem xa:fR X (nr .Add)<|T5 X.K:=by
 intro ai s σ H x y v u Q I rx ry h;obtain⟨a,b,xs,ys,rfl,rfl,ha,hb,hx,hz,q1,q2⟩:=h
 cases rx
 cases ry
 obtain⟨aZ,r1,p1,_⟩:=I.tuple ha;obtain⟨mj,r2,p2,_⟩:=I.tuple hb;refine HT.Y1 p1 p2 (λz=>hx<|r1.LQ.mp z) (λz=>⟨.ref a,H,I,J,q1<|r2.LQ.mp z⟩) (λz=>?_) (by rw[<-r1.length,<-r2.length];exact hz);refine⟨.ref s.heap.objs.size,_,I.kF (λb ob q=>iK _ q) (dO _) ?_,J,q2 (λw=>z<|r2.LQ.mpr w) _ (I.bK.fresh<|dO _)⟩;exact⟨by rw[iL];exact hz,_,r1.append r2,Oq _ _⟩
end
end L2
namespace L2
open PySem PySem.Spec PyProof.Rows
def kE(n:af)(i:ae):aw af:=if 0<=i then(if i<n then L i.toNat else ah) else if-n<=i then L (i+n).toNat else ah
def tN{α:Type}(xs:ag α)(i:ae):aw α:=(kE xs.length i).bind λj=>xs[j]?
theorem Ry(h:kE n i=L j):seqIndex? i n=L j/\j<n/\ -n<=i/\i<n:=by
 unfold kE at h;by_cases h0:0<=i
 ·rw[aH h0] at h
  by_cases h1:i<n
  ·rw[aH h1] at h
   have e:=mV h;exact⟨by rw[US h0 h1,e],om,om,h1⟩
  ·rw[ay h1] at h;cases h
 ·rw[ay h0] at h
  by_cases h1: -n<=i
  ·rw[aH h1] at h
   have e:=mV h;exact⟨by rw[UR om h1,e],om,h1,om⟩
  ·rw[ay h1] at h;cases h
theorem Kc{xs:ag α}(h:tN xs i=L v):∃j,seqIndex? i xs.length=L j/\xs[j]? =L v/\j<xs.length/\ -xs.length<=i/\i<xs.length:=by
 unfold tN at h
 cases e:kE xs.length i with
 |none=>rw[e] at h;cases h
 |some j=>
  rw[e] at h;obtain⟨h1,h2,h3,h4⟩:=Ry e;exact⟨j,h1,h,h2,h3,h4⟩
theorem tO{xs:ag α}{j:af}(h:xs[j]? =L v):tN xs j=L v:=by
 have hj:=(List.getElem?_eq_some_iff.mp h).1;have e:kE xs.length j=L j:=by
  unfold kE;rw[aH om,aH om];simp
 unfold tN;rw[e];exact h
def XB(b:Expr):Prop:=∀o i,NU b aK o i=operate [o,i] (yx o i)
def sZ(X:Cx)(r:R2):Prop:=∀jB p8 ai s(σ:St)H x y v u Q,Inv X ai σ H s->RelV x v->RelV y u->r x y H Q->NU p8 aK v u=operate [v,u] (yx v u)->b_ (bX X.prog X.w) X.A (subscriptTail jB p8 v u) (EP X ai σ Q) X.xe s
def Xg(X:Cx)(id:yf)(r:V->ag V->Hp->VK->Prop):Prop:=∀ai s(σ:St)H x xs v us Q,Inv X ai σ H s->RelV x v->cI xs us->r x xs H Q->b_ (bX X.prog X.w) X.A (call (.builtin id)<|v::us) (EP X ai σ Q) X.xe s
section
variable{X:Cx}{a b:Expr}{ta tb:TE}{pos:gP}
theorem sZ.or(h:sZ X r)(h':sZ X r'):sZ X λx y H Q=>r x y H Q\/r' x y H Q:=by
 intro jB p8 ai s σ H x y v u Q I rx ry q hs;rcases q with q|q
 ·exact h jB p8 ai s σ H x y v u Q I rx ry q hs
 ·exact h' jB p8 ai s σ H x y v u Q I rx ry q hs
theorem dY(hr:sZ X r)(ha:PE X a ta)(hb:PE X b tb)(hs:XB b):PE X (.Subscript a b pos)<|bY r ta tb:=by
 intro ai s σ H Q I h;exact Pu (Ke ha hb I h λv u s2 x y H2 I2 rx ry q=>hr a b ai s2 σ H2 x y v u Q I2 rx ry q<|hs _ _)
def lL(K:aq):R2:=λx y H Q=>∃p xs i v,x= .ref p/\y= .int i/\SqL K H p xs/\tN xs i=L v/\Q v H
def dI(K:aq):R2:=λx y H Q=>∃p xs i v,x= .ref p/\y= .int i/\cD K H p xs/\tN xs i=L v/\Q v H
def T7:R2:=λx y H Q=>∃z i c,x= .str z/\y= .int i/\z.length<=bH/\tN z.cps.toList i=L c/\Q (.str ⟨#[c]⟩) H
theorem j9:sZ X<|lL X.K:=by
 intro jB p8 ai s σ H x y v u Q I rx ry h hs;obtain⟨p,xs,i,z,rfl,rfl,hq,he,q⟩:=h
 cases rx
 obtain⟨t,rfl⟩:=ry;obtain⟨aZ,r,pl,hz⟩:=I.list hq;obtain⟨j,h1,h2,h3,h4,h5⟩:=Kc he;obtain⟨w,ew,uR⟩:=r.get h2;have hl:=r.length;have hn:=DF;have dj:EP X ai σ Q w s:=⟨z,H,I,uR,q⟩;by_cases h0:0<=i
 ·have hj:=by
   rw[US h0 h5] at h1;exact mV h1
  exact item_listR pl.isList h0 om (by rw[hj];simpa using ew) dj hs
 ·have hj:(i+aZ.toArray.size).toNat=j:=by
   rw[UR om h4] at h1;rw[gk,<-hl];exact mV h1
  exact subscriptTail_builtinR pl.isList.typeIs slot_list_getitem.lookup
   (wpAny_getItem_list_neg pl.isList om (by rw[gk]<;>omega) om (by rw[hj];simpa using ew) ⟨J,dj⟩) hs
theorem uj:sZ X<|dI X.K:=by
 intro jB p8 ai s σ H x y v u Q I rx ry h hs;obtain⟨p,xs,i,z,rfl,rfl,hq,he,q⟩:=h
 cases rx
 obtain⟨t,rfl⟩:=ry;obtain⟨aZ,r,pl,hz⟩:=I.tuple hq;obtain⟨j,h1,h2,h3,h4,h5⟩:=Kc he;obtain⟨w,ew,uR⟩:=r.get h2;have hl:=r.length;have hn:=DF;have dj:EP X ai σ Q w s:=⟨z,H,I,uR,q⟩;exact subscriptTail_builtinR pl.typeIs slot_tuple_getitem.lookup
  (getItem_tuple pl om om (by rw[gk,<-hl];exact h1) (by simpa using ew) ⟨J,dj⟩) hs
theorem ix_str:sZ X T7:=by
 intro jB p8 ai s σ H x y v u Q I rx ry h hs;obtain⟨z,i,c,rfl,rfl,hz,he,q⟩:=h;obtain⟨t,rfl⟩:=rx;obtain⟨t',rfl⟩:=ry;obtain⟨j,h1,h2,h3,h4,h5⟩:=Kc he;have hl:z.cps.toList.length=z.length:=by simp[Str.length]
 rw[hl] at h1 h4 h5;have hn:=DF
 exact tail_any (typeIs_str s z t) slot_str_getitem.lookup (getItem_str (by
  have e1:decide (i< -(2^63))=aK:=gW om;have e2:decide (i≥2^63)=aK:=gW om
  rw[e1,e2,Wy]) (by rw[h1];simpa using h2) ⟨.str ⟨#[c]⟩,H,I.lR _,⟨_,J⟩,q⟩) hs
def sF(K:aq):R2:=λx y H Q=>lL K x y H Q\/dI K x y H Q\/T7 x y H Q
theorem jb:sZ X<|sF X.K:=j9.or<|uj.or ix_str
theorem mapSeq_set(aZ:ag aE)(n j:af)(u:aE):JR (·.setIfInBounds j u) {cls:=.type "list",data:=.seq aZ.toArray n}={cls:=.type "list",data:=.seq (aZ.set j u).toArray n}:=by
 simp[JR]
theorem Inv.lst{σ:St}(I:Inv X ai σ H s)(h:H p=L (.lst xs)):∃(aZ:ag aE)(n:af),cI xs aZ/\s.heap.get? p=L {cls:=.type "list",data:=.seq aZ.toArray n}/\xs.length<=bH:=by
 obtain⟨z,aZ,n,r,e⟩:=I.bK p _ h;exact⟨aZ,n,r,e,z⟩
theorem Inv.lstUpd{σ:St}{aZ rY:ag aE}(I:Inv X ai σ H s)(h:H p=L (.lst xs))
 (ho:s.heap.get? p=L {cls:=.type "list",data:=.seq aZ.toArray n}) (hf:f {cls:=.type "list",data:=.seq aZ.toArray n}={cls:=.type "list",data:=.seq rY.toArray n'}) (r:cI ys rY) (hz:ys.length<=bH) (t:af):
 Inv X ai σ (aC H p<|.lst ys) {s with heap:=s.heap.update p f,toks:=t}:=by
 have e:(s.heap.update p f).get? p=L {cls:=.type "list",data:=.seq rY.toArray n'}:=by
  rw[WK f ho<|by rw[hf]<;>rfl,hf]
 refine I.vv (by rw[h];trivial) (.inl J) (λb u hb q=>(Jr _ _<|dy hb).trans q) ⟨_,e⟩ ?_;exact⟨hz,rY,n',r,e⟩
def zj:V->V->V->Hp->(Hp->Prop)->Prop:=λo i v H Q=>∃p xs k j,o= .ref p/\i= .int k/\H p=L (.lst xs)/\kE xs.length k=L j/\Q (aC H p (.lst<|xs.set j v))
theorem zx:OR X zj:=by
 intro ai s σ H o i v ov iv u Q I ro ri rv h;obtain⟨p,xs,k,j,rfl,rfl,hp,hj,q⟩:=h
 cases ro
 obtain⟨t,rfl⟩:=ri;obtain⟨aZ,n,r,ho,hz⟩:=I.lst hp;obtain⟨h1,h2,h3,h4⟩:=Ry hj;have hl:=r.length;have hn:=DF;have I':=I.lstUpd hp ho (mapSeq_set aZ n j u) (r.set rv j) (by rw[o9];exact hz) s.toks
 by_cases h0:0<=k
 ·have hk:=by
   rw[US h0 h4] at h1;exact mV h1
  exact PySem.W.ki_setAt ho h0 om (by rw[gk,<-hl];exact h4) (by rw[hk];exact⟨_,I',q⟩)
 ·have hk:(k+aZ.toArray.size).toNat=j:=by
   rw[UR om h3] at h1;rw[gk,<-hl];exact mV h1
  exact PySem.W.ki_setBack ho om (by rw[gk,<-hl];exact h3) om (by rw[hk];exact⟨_,I',q⟩)
theorem slice_bounds(lo hi:aw ae)(n:af):(Bx lo hi ah n).1=(HT.eQ n 0 lo:af)/\(Bx lo hi ah n).2.1=(HT.eQ n n hi:af)/\(Bx lo hi ah n).2.2=1:=by
 refine⟨?_,?_,J⟩
 ·cases lo with
  |none=>simp[Bx,HT.eQ]
  |some i=>
   simp[Bx,HT.eQ,Option.getD_none,show 1>0 by decide,nN];by_cases h:i<0
   ·simp[h,nN]<;>omega
   ·simp[h,wD]<;>omega
 ·cases hi with
  |none=>simp[Bx,HT.eQ]
  |some i=>
   simp[Bx,HT.eQ,Option.getD_none,show 1>0 by decide,nN];by_cases h:i<0
   ·simp[h,nN]<;>omega
   ·simp[h,wD]<;>omega
theorem slicePick_cut(aZ:ag aE)(lo hi:aw ae):slicePick aZ.toArray lo hi ah=((aZ.drop<|HT.eQ aZ.length 0 lo).take<|HT.eQ aZ.length aZ.length hi-HT.eQ aZ.length 0 lo).toArray:=by
 obtain⟨h1,h2,h3⟩:=slice_bounds lo hi aZ.toArray.size;unfold slicePick;rw[h1,h2,h3];simp only[sliceRange_one,pick_run,gk]<;>rfl
def Bl(K:aq):V->aw ae->aw ae->Hp->VK->Prop:=λx lo hi H Q=>∃a xs,x= .ref a/\SqL K H a xs/\ ∀p,H p=ah->Q (.ref p) (aC H p (.lst<|qk xs lo hi))
theorem lO:ye X<|Bl X.K:=by
 intro ai s σ H x v vl vu lo hi sl Q I rx hs pl pu h;obtain⟨a,xs,rfl,hx,q⟩:=h
 cases rx
 obtain⟨aZ,r,ht,hz⟩:=I.list hx;have dG:=r.length;refine⟨"list",_,slot_list_getitem.lookup,ht.isList.typeIs,?_⟩;refine wpAny_getItem_list_slice ht.isList hs pl pu .none (by simp) ?_<|by rw[gk]<;>omega
 rw[slicePick_cut,<-dG];refine⟨.ref s.heap.objs.size,_,I.kF (λb ob q=>iK _ q) (dO _) ?_,J,q _ (I.bK.fresh<|dO _)⟩;exact⟨dJ (Qc xs lo hi) hz,_,0,(r.drop _).take _,o6 _ J⟩
theorem ox:vC X (.builtin "len") (λxs H Q=>∃p ys,xs=[.ref p]/\(SqL X.K H p ys\/cD X.K H p ys)/\Q (.int ys.length) H):=by
 intro ai s σ H xs us Q I r h;obtain⟨p,ys,rfl,hq,q⟩:=h;obtain⟨u,rfl,rx⟩:=vals1 r
 cases rx
 have hn:=DF;rcases hq with hq|hq
 ·obtain⟨aZ,r',pl,hz⟩:=I.list hq
  have dG:=r'.length;exact Calls.call_len_list pl.isList (by simp[gk]<;>omega) ⟨.int ys.length,H,I.lR _,⟨s.toks+1,by rw[gk,dG]⟩,q⟩
 ·obtain⟨aZ,r',pl,hz⟩:=I.tuple hq
  have dG:=r'.length;exact len_tuple pl (by simp[gk]<;>omega) ⟨.int ys.length,H,I.lR _,⟨s.toks+1,by rw[gk,dG]⟩,q⟩
theorem Kk:vC X (.type "list") (λxs H Q=>∃p ys,xs=[.ref p]/\(SqL X.K H p ys\/cD X.K H p ys)/\ ∀l,H l=ah->Q (.ref l) (aC H l<|.lst ys)):=by
 intro ai s σ H xs us Q I r h;obtain⟨p,ys,rfl,hq,q⟩:=h;obtain⟨u,rfl,rx⟩:=vals1 r
 cases rx
 have dj:∀aZ,cI ys aZ->ys.length<=bH-> ∀h' c',_->h'.get? s.heap.objs.size=L {cls:=.type "list",dict:=ah,data:=.seq aZ.toArray c',slots:= #[]}->EP X ai σ Q _ {s with heap:=h'}:=λaZ r' hz h' c' kp e=>
  ⟨.ref s.heap.objs.size,_,I.kF kp (dO _) (show gO X.prog X.w _ h' _ (.lst ys) from⟨hz,aZ,c',r',e⟩),J,q _ (I.bK.fresh<|dO _)⟩
 rcases hq with hq|hq
 ·obtain⟨aZ,r',pl,hz⟩:=I.list hq
  have dG:=r'.length;obtain⟨o,ho,hc,n,hd⟩:=pl.isList;exact call_list_seq p (.inl J) ho hc hd (λh' c' kp e=>dj aZ r' hz h' c' kp e)<|by simp[gk]<;>omega
 ·obtain⟨aZ,r',pl,hz⟩:=I.tuple hq
  have dG:=r'.length;obtain⟨o,ho,hc,n,hd⟩:=pl;exact call_list_seq p (.inr J) ho hc hd (λh' c' kp e=>dj aZ r' hz h' c' kp e)<|by simp[gk]<;>omega
theorem qi:vC X (.type "tuple") (λxs H Q=>∃p ys,xs=[.ref p]/\((SqL X.K H p ys/\ ∀l,H l=ah->Q (.ref l) (aC H l<|.tup ys))\/(cD X.K H p ys/\Q (.ref p) H))):=by
 intro ai s σ H xs us Q I r h;obtain⟨p,ys,rfl,h⟩:=h;obtain⟨u,rfl,rx⟩:=vals1 r
 cases rx
 rcases h with⟨hq,q⟩|⟨hq,q⟩
 ·obtain⟨aZ,r',pl,hz⟩:=I.list hq
  have dG:=r'.length;refine call_tuple_list pl.isList (λh' kp=>?_)<|by simp[gk]<;>omega
  have I1:=I.kept (t':=s.toks) kp;have I2:=I1.kF (t':=s.toks) (λb o e=>iK _ e) (dO _) (show gO X.prog X.w _ _ _ (.tup ys) from⟨hz,aZ,r',Oq _ _⟩)
  exact⟨.ref h'.objs.size,_,I2,J,q _ (I1.bK.fresh<|dO _)⟩
 ·obtain⟨aZ,r',pl,hz⟩:=I.tuple hq
  exact call_tuple_same pl ⟨.ref p,H,I,J,q⟩
def Wa(K:aq)(T:yf)(x:V)(H:Hp):Prop:=match x with
 | .str _=>T="str"
 | .int _=>T="int"
 | .ref p=>(T="list"/\ ∃xs,SqL K H p xs)\/(T="tuple"/\ ∃o,K.lookup p=L o/\o.cls= .type "tuple"/\o.dict=ah)\/(T="dict"/\((∃aW,H p=L (.dK aW))\/ ∃aW,H p=L (.dT aW)))\/(T="set"/\ ∃S n,H p=L (.set S n))
 |_=>eW
theorem tyV_is{σ:St}(I:Inv X ai σ H s)(r:RelV x v)(ty:Wa X.K T x H):s.TypeIs v T/\ ∀a,v= .ref a-> ∃ob,s.heap.get? a=L ob/\ob.dict=ah:=by
 cases x with
 |str z=>
  obtain⟨t,rfl⟩:=r
  cases(show T="str" from ty)
  exact⟨typeIs_str s z t,λ_ e=>nomatch e⟩
 |int i=>
  obtain⟨t,rfl⟩:=r
  cases(show T="int" from ty)
  exact⟨typeIs_int s i t,λ_ e=>nomatch e⟩
 |ref p=>
  cases r
  rcases ty with⟨rfl,xs,hq⟩|⟨rfl,o,hk,hc,hd⟩|⟨rfl,hk⟩|⟨rfl,S,n,hk⟩
  ·obtain⟨aZ,_,pl,_⟩:=I.list hq
   refine⟨pl.isList.typeIs,λa e=>?_⟩
   cases e
   obtain⟨o,n,e,c,hd,_⟩:=pl;exact⟨o,e,hd⟩
  ·refine⟨⟨o,I.iE p o hk,hc⟩,λa e=>?_⟩
   cases e
   exact⟨o,I.iE _ o hk,hd⟩
  ·have z:∃o,s.heap.get? p=L o/\o.ExactDict:=by
    rcases hk with⟨aW,hk⟩|⟨aW,hk⟩
    ·obtain⟨_,_,_,_,o,_,_,e,ex,_⟩:=I.bK p _ hk
     exact⟨o,e,ex⟩
    ·obtain⟨_,_,_,_,o,_,_,e,ex,_⟩:=I.bK p _ hk
     exact⟨o,e,ex⟩
   obtain⟨o,e,ex⟩:=z;refine⟨⟨o,e,ex.1⟩,λa e2=>?_⟩
   cases e2
   exact⟨o,e,ex.2.1⟩
  ·obtain⟨o,_,_,_,e,ex,_⟩:=I.bK p _ hk
   refine⟨⟨o,e,ex.1⟩,λa e2=>?_⟩
   cases e2
   exact⟨o,e,ex.2.1⟩
 |_=>exact g_ ty
def VT(K:aq)(T:yf)(r:V->ag V->Hp->VK->Prop)(to:TE)(t:TA):TE:=λσ H Q=>to σ H λx U=>Wa K T x U/\t σ U λxs H2=>r x xs H2 Q
variable{o e:Expr}{es:ag Expr}{to:TE}{t:TA}{gE:ax}{kY rJ:gP}{T id:yf}{r:V->ag V->Hp->VK->Prop}
theorem uJ(pa:PlainAttrs T)(jj:Slot T gE id)(hty:typeOf (.builtin id)=pure (.type "method_descriptor"))(hm:Xg X id r)(ho:PE X o to)(ha:PA X (e::es) t)
 (K':FJ o gE X.env (da o X.env)=da o X.env:=by rfl)
 (hfew:((jr rJ<|dq (e::es) X.env).all (λx=>!x.1)&&(CH rJ<|Dv [] X.env).all (λx=>x.1.isSome)
   &&decide ((e::es).length+([]:ag Keyword).length+(if([]:ag Keyword).isEmpty then 0 else 1)<30))=ao:=by rfl)
 (Lf:(kY.endLine==rJ.line)=ao:=by rfl) (hs:dq (e::es) X.env=(aK,da e X.env)::dq es X.env:=by rfl) (hplain:(jr rJ<|dq es X.env).any (·.1)=aK:=by rfl):
 PE X (.Call (.Attribute o gE kY) (e::es) [] rJ)<|VT X.K T r to t:=by
 intro ai s σ H Q I h;refine wpAny_Call_method_late K' hfew Lf J (cj (ho ai s σ H _ I h) λv s1⟨x,U,I1,r1,ty,q1⟩=>?_);obtain⟨h1,h2⟩:=tyV_is I1 r1 ty;refine⟨T,id,pa,jj,hty,h1,h2,?_⟩;have hA:=ha rJ ai s1 σ U _ I1 q1;rw[hs] at hA⊢;refine WC (by show(aK||(jr rJ _).any (·.1))=aK;rw[hplain]<;>rfl)<|WD ?_;exact cj hA λus s2⟨vs,H2,I2,r2,q2⟩=>hm ai s2 σ H2 x vs v us Q I2 r1 r2 q2
end
end L2
namespace L2
open PySem PySem.Spec PyProof.Rows
def JG(X:Cx)(id:yf)(r:V->ag V->Hp->VK->Prop):Prop:=∀ai s(σ:St)H x xs v us Q,Inv X ai σ H s->RelV x v->cI xs us->r x xs H Q->b_ (bX X.prog X.w) X.A (call (.builtin id)<|v::us) (EP X ai σ Q) X.xe s
theorem cI.one:∀{x:V}{us:ag aE},cI [x] us-> ∃u,us=[u]/\RelV x u
 |_,_,.cons r .nil=>⟨_,J,r⟩
section
variable{X:Cx}{ai:ag (ak×eN)}{σ:St}{H:Hp}{s:de}{l b:ak}{xs ys zs:ag V}
theorem Inv.LD{aZ rY:ag aE}(I:Inv X ai σ H s)(hH:H l=L (.lst xs))
 (e:s.heap.get? l=L {cls:=.type "list",data:=.seq aZ.toArray n}) (hf:f aZ.toArray=rY.toArray) (hv:cI ys rY) (hz:ys.length<=bH):
 Inv X ai σ (aC H l<|.lst ys) {s with heap:=s.heap.update l<|JR f,toks:=t'}:=by
 have q:=PySem.IsL.update e f;rw[hf] at q;refine I.vv (by rw[hH];exact cg) (.inl J) (λb' u hb hu=>(Jr s.heap _<|dy hb).trans hu) ⟨_,q⟩ ?_;exact⟨hz,rY,_,hv,q⟩
theorem Inv.lnew(I:Inv X ai σ H s)(hv:cI ys aZ)(hz:ys.length<=bH):Inv X ai σ (aC H s.heap.objs.size<|.lst ys) {s with heap:=s.heap.push {cls:=.type "list",data:=.seq aZ.toArray},toks:=t'}:=I.kF (λ_ _ q=>iK _ q) (dO _) ⟨hz,aZ,0,hv,o6 _ J⟩
theorem Inv.fresh(I:Inv X ai σ H s):H s.heap.objs.size=ah:=I.bK.fresh<|dO _
theorem Inv.AW(I:Inv X ai σ H s)(hH:H l=L (.lst xs)):xs.length<=bH/\ ∃(aZ:ag aE)(n:af),cI xs aZ/\xs.length=aZ.length/\s.heap.get? l=L {cls:=.type "list",data:=.seq aZ.toArray n}:=by
 obtain⟨z,aZ,n,r,e⟩:=I.bK l _ hH;exact⟨z,aZ,n,r,r.length,e⟩
theorem SE(h:n<=bH):Jl n=aK:=by
 exact gW om
end
section
variable{X:Cx}
def rAppend:V->ag V->Hp->VK->Prop:=λx vs H Q=>∃l xs y,x= .ref l/\vs=[y]/\H l=L (.lst xs)/\xs.length<bH/\Q .cE (aC H l (.lst<|xs++[y]))
theorem AZ:JG X "list.append" rAppend:=by
 intro ai s σ H x vs v us Q I rx rv h;obtain⟨l,xs,y,rfl,rfl,hH,hz,q⟩:=h
 cases rx
 obtain⟨u,rfl,ru⟩:=rv.one;obtain⟨z,aZ,n,r,hl,e⟩:=I.AW hH;refine P7 F.slot_list_append ⟨_,e,J⟩ F.entry_list_append (F.args_list_append_2 _ _) (PySem.list_append l aZ.toArray n u (by rw[gk];omega)) ⟨e,?_⟩;refine⟨.cE,_,I.LD hH e (by simp) (r.append<|.cons ru .nil) ?_,J,q⟩;rw[iL,List.length_singleton];omega
def rExtend:V->ag V->Hp->VK->Prop:=λx vs H Q=>∃l b xs zs,x= .ref l/\vs=[.ref b]/\H l=L (.lst xs)/\H b=L (.lst zs)/\xs.length+zs.length<=bH/\Q .cE (aC H l (.lst<|xs++zs))
theorem mt_extend:JG X "list.extend" rExtend:=by
 intro ai s σ H x vs v us Q I rx rv h;obtain⟨l,b,xs,zs,rfl,rfl,hH,hB,hz,q⟩:=h
 cases rx
 obtain⟨u,rfl,ru⟩:=rv.one
 cases ru
 obtain⟨z,aZ,n,r,hl,e⟩:=I.AW hH;obtain⟨z2,mj,n2,r2,hX,e2⟩:=I.AW hB;have nJ:aZ.toArray.size+mj.toArray.size<=bH:=by rw[gk,gk];omega
 have Lg:¬(!aZ.toArray.isEmpty&&Jl (aZ.toArray.size+mj.toArray.size))=ao:=by
  rw[SE nJ,Ww];exact vB
 refine P7 O0 ⟨_,e,J⟩ WJ (WI _ _)
  (AutoSeq1.list_extend_list_list_0 l aZ.toArray n b mj.toArray n2 Lg (by rw[gk];omega) om) ⟨e,e2,?_⟩
 refine⟨.cE,_,I.LD hH e (by simp) (r.append r2) ?_,J,q⟩;rw[iL];omega
def Mv:R2:=λx y H Q=>∃l b xs zs,x= .ref l/\y= .ref b/\H l=L (.lst xs)/\H b=L (.lst zs)/\xs.length+zs.length<=bH/\ ∀p,H p=ah->Q (.ref p) (aC H p (.lst<|xs++zs))
theorem uE:fR X (nr .Add) Mv:=by
 intro ai s σ H x y v u Q I rx ry h;obtain⟨l,b,xs,zs,rfl,rfl,hH,hB,hz,q⟩:=h
 cases rx
 cases ry
 obtain⟨z,aZ,n,r,hl,e⟩:=I.AW hH;obtain⟨z2,mj,n2,r2,hX,e2⟩:=I.AW hB;refine PySem.P.add_list e e2 ?_ (by rw[gk,gk];omega);have ea:aZ.toArray++mj.toArray=(aZ++mj).toArray:=by simp
 rw[ea];exact⟨.ref _,_,I.lnew (r.append r2) (by rw[iL];omega),J,q _ I.fresh⟩
end
end L2
namespace L2
open PySem PySem.Spec PyProof.Rows
theorem cI.P1:∀{bs:ag c_}{us:ag aE},cI (bs.map V.bl) us->us=bs.map Cw
 |[],us,h=>by
  cases h
  rfl
 |b::bs,us,h=>by
  cases h with
  |cons r t=>
   cases r
   rw[cI.P1 t,kr]
theorem cI.ref1(r:cI [V.ref a] us):us=[j3 a]:=by
 cases r with
 |cons r t=>
  cases t
  cases r
  rfl
theorem iter_any(hl:s.heap.IsList l gC)
 (h:∀jT,jT={s with heap:=s.heap.push {cls:=.type "list_iterator",data:=.fields #[.ref l,.int 0 0]}}->(jT.heap.IsListIter s.heap.objs.size l 0/\jT.heap.IsList l gC)->l≠s.heap.objs.size->Q (.ref s.heap.objs.size) jT):b_ (bX prog w) A (pyIter<|.ref l) Q E s:=by
 have d7:l<s.heap.objs.size:=by obtain⟨_,e,_⟩:=hl;exact d_ e
 exact wpAny_pyIter_list hl (h _ J ⟨⟨_,o6 _ J,J,J⟩,hl.push _⟩<|jX d7)
theorem truth_bools{bs:ag c_}(e:aZ=bs.map Cw):TruthOf prog w A (λi v=>aZ.toArray[i]? =L v) λi=>bs.getD i aK:=λi v s Q E hv hq=>by
 have AR:=by simpa using hv
 rw[e,mO] at AR;obtain⟨b,hb,rfl⟩:=Option.map_eq_some_iff.mp AR;have hg:bs.getD i aK=b:=by rw[BY,hb]<;>rfl
 have wB:Q (bs.getD i aK) s:=hq;rw[hg] at wB;exact BL wB
theorem any_range:∀bs:ag c_,(il bs.length).any (λi=>bs.getD i aK)=bs.any id
 |[]=>rfl
 |b::bs=>by
  rw[xJ,List.range_succ_eq_map,xH,WY,xH,<-any_range bs]
  all_goals rfl
section
variable{X:Cx}
def T4(K:aq):ag V->Hp->VK->Prop:=λvs H Q=>∃(a:ak)(bs:ag c_),vs=[V.ref a]/\SqL K H a (bs.map V.bl)/\Q (.bl<|bs.any id) H
theorem Qb(hc:X.j6=ao):vC X (.builtin "any")<|T4 X.K:=by
 intro ai s σ H vs us Q I r h;obtain⟨a,bs,rfl,hs,q⟩:=h;obtain⟨aZ,rv,hl,_⟩:=I.list hs;rw[cI.ref1 r];have hb:=rv.P1;refine call_any_walk (iter_any hl.isList λjT e2 st gR=>?_);subst e2;refine⟨_,_,_,_,_,_,_,J,Walks.list (A:=X.A.in1) (I.ok.hd hc) _ a gR aZ.toArray,st,truth_bools hb,λh' tk hk=>?_⟩;refine⟨.bl _,H,I.kept λb o eo=>hk b o (λyF=>?_)<|iK _ eo,?_,q⟩
 ·rcases List.mem_cons.mp yF with e1|yF
  ·exact absurd (e1▸d_ eo)<|mU _
  ·cases yF
 ·show Cw _=Cw _
  rw[<-any_range,hb,gk,hJ]
end
mutual
inductive Dp(K:aq)(H:Hp):V->pj->Prop
 |cE:Dp K H .cE .none
 |bl b:Dp K H (.bl b)<|.bool b
 |int i:Dp K H (.int i)<|.int i
 |str x:Dp K H (.str x)<|.str x
 |lst {a:ak} {xs:ag V} {ds:ag pj}:SqL K H a xs->xE K H xs ds->Dp K H (.ref a) (.list ds)
 |tup {a:ak} {xs:ag V} {ds:ag pj}:cD K H a xs->xE K H xs ds->Dp K H (.ref a) (.tuple ds)
inductive xE K H:ag V->ag pj->Prop
 |nil:xE K H [] []
 |cons {v:V} {vs:ag V} {d:pj} {ds:ag pj}:Dp K H v d->xE K H vs ds->xE K H (v::vs) (d::ds)
end
section
variable{X:Cx}{ai:ag (ak×eN)}{σ:St}{H:Hp}{s:de}
mutual
theorem Dp.Bo(I:Inv X ai σ H s):∀d v u,Dp X.K H v d->RelV v u-> ∃as,Reads s.heap u d as
 | .none,_,_,h,r=>by
  cases h
  cases r
  exact⟨_,Reads.none⟩
 | .bool b,_,_,h,r=>by
  cases h
  cases r
  exact⟨_,Reads.bool b⟩
 | .int i,_,_,h,r=>by
  cases h
  obtain⟨t,rfl⟩:=r;exact⟨_,Reads.int i t⟩
 | .str x,_,_,h,r=>by
  cases h
  obtain⟨t,rfl⟩:=r;exact⟨_,Reads.str x t⟩
 | .list ds,_,_,h,r=>by
  cases h with
  |lst hs ha=>
   cases r
   obtain⟨aZ,rv,⟨o,n,ho,hc,_,hd⟩,_⟩:=I.list hs;obtain⟨as,hr⟩:=Dp.zl I ds _ aZ ha rv;exact⟨_,Reads.list ho hc hd hr⟩
 | .tuple ds,_,_,h,r=>by
  cases h with
  |tup hs ha=>
   cases r
   obtain⟨aZ,rv,⟨o,ho,hc,n,hd⟩,_⟩:=I.tuple hs;obtain⟨as,hr⟩:=Dp.zl I ds _ aZ ha rv;exact⟨_,Reads.tuple ho hc hd hr⟩
 | .dict _,_,_,h,_=>by cases h
theorem Dp.zl(I:Inv X ai σ H s):∀ds vs us,xE X.K H vs ds->cI vs us-> ∃as,ReadsAll s.heap us ds as
 |[],_,_,h,r=>by
  cases h
  cases r
  exact⟨_,ReadsAll.nil⟩
 |d::ds,_,_,h,r=>by
  cases h with
  |cons h1 h2=>
   cases r with
   |cons r1 r2=>
    obtain⟨as,q1⟩:=Dp.Bo I d _ _ h1 r1;obtain⟨bs,q2⟩:=Dp.zl I ds _ _ h2 r2;exact⟨_,ReadsAll.cons q1 q2⟩
end
end
section
variable{X:Cx}
def rEqD(K:aq):R2:=λx y H Q=>∃d e,Dp K H x d/\Dp K H y e/\J7 d=ao/\J7 e=ao/\Q (.bl<|Fs d e) H
theorem op_eqD(hu:X.A.units+64<ow):fR X (nz .Eq)<|rEqD X.K:=by
 intro ai s σ H x y v u Q I rx ry h;obtain⟨d,e,hd,he,sd,se,q⟩:=h;obtain⟨as,r1⟩:=Dp.Bo I d x v hd rx;obtain⟨bs,r2⟩:=Dp.Bo I e y u he ry;exact SeqAt.compareEq_shaped r1 r2 sd se hu ⟨.bl _,H,I,J,q⟩
end
end L2
namespace L2
open PySem PySem.Spec PyProof.Rows
abbrev Og(h:b9)(c:ak)(v:aw aE):Prop:=h.IsCell c v
def relS(aT sc:lZ):lZ:={aT with names:=aT.names.map λ(n,k)=>if(k== .free&&sc.kind== .function&&sc.names.lookup n==L .cell) then(n,.cell) else(n,k)}
def js(wb:ag<|ax×ak):ag (ax×mQ)->ag (ax×ak)->ag (ax×ak)
 |[],acc=>acc
 |(n,k)::r,acc=>if k== .free then js wb r ((n,(wb.lookup n).getD 0)::acc) else js wb r acc
theorem P'(env:kj)(f:ax×mQ->ag (ax×ak)->Sem (ForInStep (ag<|ax×ak)))
 (hf:∀n k c,f (n,k) c=if k== .free then(do let a<-cellOf env n;pure (.yield<|(n,a)::c)) else pure (.yield c)):
 ∀gL acc,(∀y∈gL,y.2= .free-> ∃c,env.cells.lookup y.1=L c)->forIn gL acc f=pure (js env.cells gL acc)
 |[],acc,_=>by rw[List.forIn_nil];rfl
 |(n,k)::r,acc,h=>by
  rw[List.forIn_cons,hf];have ih:=λacc=>P' env f hf r acc λy hy=>h y<|gz _ hy;unfold js;by_cases hk:(k==JH)=ao
  ·rw[aH hk,aH hk]
   obtain⟨c,hc⟩:=h _ ik<|by simpa using hk
   have e:cellOf env n=pure c:=by unfold cellOf;rw[hc]
   rw[e];have e2:(env.cells.lookup n).getD 0=c:=by rw[hc];rfl
   rw[e2];exact ih _
  ·rw[ay hk,ay hk]
   exact ih _
theorem P_(h:∀y∈aT.names,y.2= .free-> ∃c,env.cells.lookup y.1=L c):closureFor aT env=pure (js env.cells aT.names []):=by
 simp only[closureFor];rw[P' env _ (λn k c=>J) aT.names [] h];rfl
theorem mem_lookup{α:Type}:∀{l:ag (ax×α)}{n:ax}{c:α},(n,c)∈l-> ∃c',l.lookup n=L c'
 |(k,v)::r,n,c,h=>by
  rw[zQ]
  cases hb:n==k with
  |true=>exact⟨_,J⟩
  |false=>
   rcases List.mem_cons.mp h with e|h
   ·cases e;simp at hb
   ·exact mem_lookup h
theorem FV:∀{gL:ag (ax×mQ)}{acc:ag (ax×ak)}{n:ax}{c:ak},(n,c)∈js wb gL acc->(n,c)∈acc\/((n,.free)∈gL/\c=(wb.lookup n).getD 0)
 |[],_,_,_,h=>.inl h
 |(m,k)::r,acc,n,c,h=>by
  unfold js at h
  split at h
  ·rename_i hk
   have hk:=by simpa using hk
   rcases FV h with h|⟨h1,h2⟩
   ·rcases List.mem_cons.mp h with e|h
    ·cases e;exact .inr ⟨hk▸ik,J⟩
    ·exact .inl h
   ·exact .inr ⟨gz _ h1,h2⟩
  ·rcases FV h with h|⟨h1,h2⟩
   ·exact .inl h
   ·exact .inr ⟨gz _ h1,h2⟩
theorem Ko:∀{gL:ag (ax×mQ)}{acc:ag (ax×ak)}{p:ax×ak},p∈acc->p∈js wb gL acc
 |[],_,_,h=>h
 |(m,k)::r,acc,p,h=>by
  unfold js
  split
  ·exact Ko<|gz _ h
  ·exact Ko h
theorem Kq:∀{gL:ag (ax×mQ)}{acc:ag (ax×ak)}{n:ax},(n,.free)∈gL->(n,(wb.lookup n).getD 0)∈js wb gL acc
 |(m,k)::r,acc,n,h=>by
  unfold js;rcases List.mem_cons.mp h with e|h
  ·cases e
   exact Ko ik
  ·split
   ·exact Kq h
   ·exact Kq h
theorem CW:∀{gL:ag (ax×mQ)}{h:b9}{acc:ag (ax×ak)}{x:ax}{c:ak},(x,c)∈iz h.objs.size gL acc->(x,c)∈acc\/((x,.cell)∈gL/\h.objs.size<=c/\Og (xk h gL) c ah)
 |[],_,_,_,_,h=>.inl h
 |_::r,h,acc,x,c,hm=>by
  unfold iz at hm;unfold xk
  split at hm
  ·rename_i hk
   rw[aH hk];have hk:=by simpa using hk
   rw[<-o7 h {cls:=.type "cell",data:=.cell ah}] at hm;rcases CW hm with hm|⟨h1,h2,h3⟩
   ·rcases List.mem_cons.mp hm with e|hm
    ·cases e
     exact .inr ⟨hk▸ik,dO _,_,HF r _ _ _ (o6 _ J),J⟩
    ·exact .inl hm
   ·rw[o7] at h2
    exact .inr ⟨gz _ h1,JJ h2,h3⟩
  ·rename_i hk
   rw[ay hk];rcases CW hm with hm|⟨h1,h2,h3⟩
   ·exact .inl hm
   ·exact .inr ⟨gz _ h1,h2,h3⟩
theorem FU:∀{gL:ag (ax×mQ)}{n:af}{acc:ag (ax×ak)}{p:ax×ak},p∈acc->p∈iz n gL acc
 |[],_,_,_,h=>h
 |(m,k)::r,n,acc,p,h=>by
  unfold iz
  split
  ·exact FU<|gz _ h
  ·exact FU h
theorem Km:∀{gL:ag (ax×mQ)}{n:af}{acc:ag (ax×ak)}{x:ax},(x,.cell)∈gL-> ∃c,(x,c)∈iz n gL acc
 |(m,k)::r,n,acc,x,h=>by
  unfold iz;rcases List.mem_cons.mp h with e|h
  ·cases e
   exact⟨n,FU ik⟩
  ·split
   ·exact Km h
   ·exact Km h
theorem Kn:∀{gL:ag (ax×mQ)}{h:b9}{acc:ag (ax×ak)}{x y:ax}{c:ak},(∀p∈acc,p.2<h.objs.size)->(∀x y c,(x,c)∈acc->(y,c)∈acc->x=y)->(x,c)∈iz h.objs.size gL acc->(y,c)∈iz h.objs.size gL acc->x=y
 |[],_,_,_,_,_,_,hi,h1,h2=>hi _ _ _ h1 h2
 |_::r,h,acc,x,y,c,hl,hi,h1,h2=>by
  unfold iz at h1 h2
  split at h1
  ·rename_i hk
   rw[aH hk] at h2;rw[<-o7 h {cls:=.type "cell",data:=.cell ah}] at h1 h2;refine Kn (λp hp=>?_) (λx y c a b=>?_) h1 h2
   ·rw[o7]
    rcases List.mem_cons.mp hp with rfl|hp
    ·exact Fl _
    ·exact JM<|hl p hp
   ·rcases List.mem_cons.mp a with e|a<;>rcases List.mem_cons.mp b with e'|b
    ·cases e;cases e';rfl
    ·cases e;exact absurd (hl _ b)<|mU _
    ·cases e';exact absurd (hl _ a)<|mU _
    ·exact hi _ _ _ a b
  ·rename_i hk
   rw[ay hk] at h2;exact Kn hl hi h1 h2
theorem Sw{code:aE}
 (h:Q (newEnv aT s.heap.objs.size globals (iz (s.heap.objs.size+1) aT.names closure) di func code (L around) builtins)
   {s with heap:=xk (s.heap.push {cls:=.type "dict",data:=.dict #[]}) aT.names}):
 b_ aJ A (newFunctionEnv aT globals closure [] di func code (L around) builtins) Q E s:=by
 simp only[newFunctionEnv,Option.isSome_some,nN];refine dh<|wpAny_alloc ?_;refine dh<|wpAny_layCells _ (λn k c=>J) aT.names closure _ _ ?_;rw[show({s with heap:=s.heap.push {cls:=.type "dict",data:=.dict #[]}}:de).heap.objs.size=s.heap.objs.size+1 from o7 ..];exact dh (gc<|gc h)
theorem LC{sc:lZ}:∀{gL:ag (ax×mQ)}{x:ax}{k:mQ},(gL.map λ(n,k)=>if(k==JH&&sc.kind== .function&&sc.names.lookup n==L .cell) then(n,NameKind.cell) else(n,k)).lookup x=L k->
 ∃k',gL.lookup x=L k'/\(k=k'\/(k'= .free/\k= .cell))
 |[],_,_,h=>by simp at h
 |(n,k₀)::r,x,k,h=>by
  have ih:=@LC sc r x k;have h':xK x ((if _=ao then _ else _)::(r.map _))=L k:=h
  cases hx:x==n with
  |true=>
   simp only[zQ,hx];by_cases hc:(k₀==JH&&sc.kind== .function&&sc.names.lookup n==L .cell)=ao
   ·rw[aH hc] at h'
    simp[zQ,hx] at h'
    cases h'
    simp[eR,beq_iff_eq] at hc;exact⟨k₀,J,.inr ⟨hc.1.1,J⟩⟩
   ·rw[ay hc] at h'
    simp[zQ,hx] at h'
    cases h'
    exact⟨_,J,.inl J⟩
  |false=>
   simp[zQ,hx];by_cases hc:(k₀==JH&&sc.kind== .function&&sc.names.lookup n==L .cell)=ao
   ·rw[aH hc] at h'
    simp only[zQ,hx] at h';exact ih h'
   ·rw[ay hc] at h'
    simp only[zQ,hx] at h';exact ih h'
structure vA(N:ag ax)(sc aT:lZ)(own:ag<|ax×af):Prop where
 kind:aT.kind= .function
 zH:∀y∈aT.names,aT.names.lookup y.1=L y.2
 ix:∀p∈own,N[p.2]? =L p.1
 free:∀y∈aT.names,y.2= .free->sc.names.lookup y.1=L .cell\/sc.names.lookup y.1=L .free
 own:∀y∈aT.names,y.2= .local\/y.2= .cell->y.1∈own.map (·.1)\/y.1∉N
def c8(σ:St):ag af->St
 |[]=>σ
 |v::vs=>(c8 σ vs).set v ah
theorem Jd(σ:St):∀vs,(c8 σ vs).length=σ.length
 |[]=>rfl
 |v::vs=>by unfold c8;rw[o9,Jd σ vs]
theorem Je:∀{vs:ag af},(c8 σ vs)[i]? =L (L x)->σ[i]? =L (L x)/\i∉vs
 |[],h=>⟨h,by simp⟩
 |v::vs,h=>by
  unfold c8 at h;by_cases hi:v=i
  ·subst hi
   by_cases hv:v<(c8 σ vs).length
   ·rw[B0 hv] at h;cases h
   ·rw[BZ<|by simpa using hv] at h;cases h
  ·rw[zP hi] at h
   obtain⟨h1,h2⟩:=Je h;exact⟨h1,by simp[JE,not_or];exact⟨λe=>hi e.symm,h2⟩⟩
abbrev Cx.j5(X:Cx)(s:de)(H:Hp)(aT:lZ)(fY:kj)(fp:ag ak):Cx:={X with gF:=s,sX:=H,env:=fY,bC:=X.stack,ex:=fp,fn:=λx=>aT.names.lookup x==L .cell,pn:=[],xe:=λ_ _=>eW}
section
variable{X:Cx}{ai:ag (ak×eN)}{σ:St}{H:Hp}{s:de}
theorem P0(I:Inv X ai σ H s)(ok:vA X.N X.env.scope aT own)(hN:X.N.Nodup)(wy:∀b∈fp,kP X ai H b/\b<s.heap.objs.size):Inv (X.j5 s H aT (jt aT (iz (s.heap.objs.size+1) aT.names<|js X.env.cells aT.names []) s.heap.objs.size X.env) fp) [] (c8 σ (own.map (·.2))) H {s with heap:=xk (s.heap.push {cls:=.type "dict",data:=.dict #[]}) aT.names}:=by
 have wz:∀y∈aT.names,y.2= .free-> ∃c,X.env.cells.lookup y.1=L c:=λy hy e=>by
  rcases ok.free y hy e with k|k
  ·exact I.ok.t_ _<|.inl k
  ·exact I.ok.t_ _<|.inr k
 generalize Dh:jt aT _ s.heap.objs.size X.env=fY;have kp:∀b o,s.heap.get? b=L o->(xk (s.heap.push {cls:=.type "dict",data:=.dict #[]}) aT.names).get? b=L o:=λb o e=>HF _ _ _ _<|iK _ e;have hL:fY.locals=s.heap.objs.size:=by rw[<-Dh];rfl
 have yC:fY.cells=iz (s.heap.objs.size+1) aT.names (js X.env.cells aT.names []):=by rw[<-Dh];rfl
 have yG:fY.scope=relS aT X.env.scope:=by rw[<-Dh];rfl
 rw[<-o7 s.heap {cls:=.type "dict",data:=.dict #[]}] at yC;have cm:∀{y c},(y,c)∈js X.env.cells aT.names []->X.env.cells.lookup y=L c/\c<s.heap.objs.size:=λ{y c}hm=>by
  rcases FV hm with hm|⟨h1,rfl⟩
  ·cases hm
  ·obtain⟨c,hc⟩:=wz _ h1 J
   rw[hc];obtain⟨w,z⟩:=I.cell _ _ hc;exact⟨J,z.lt⟩
 have mem:∀{y c},fY.cells.lookup y=L c->_\/(s.heap.objs.size+1<=c/\Og _ c ah):=λ{y c}e=>by
  rw[yC] at e;rcases CW (jE e) with hm|⟨_,h2,h3⟩
  ·exact .inl<|cm hm
  ·rw[o7] at h2;exact .inr ⟨h2,h3⟩
 have AV:∀{y},aT.names.lookup y=L .free-> ∃c,fY.cells.lookup y=L c/\X.env.cells.lookup y=L c:=λ{y}hl=>by
  have hy:=jE hl;obtain⟨c',e'⟩:=mem_lookup (FU<|Kq hy);rw[<-yC] at e';refine⟨c',e',?_⟩;rw[yC] at e';rcases CW (jE e') with hm|⟨h1,_,_⟩
  ·exact(cm hm).1
  ·have:=ok.zH _ h1
   rw[hl] at this;cases this
 have gd:(X.j5 s H aT fY fp).Ok:=by
  refine⟨I.ok.gX,by rw[yG];exact ok.kind,by rw[<-Dh];exact I.ok.tX,by rw[<-Dh];exact I.ok.An,by rw[hL];exact dO _,λy z c e1 e2=>?_,λy hy=>?_,λy c z e=>?_,I.ok.hd,I.ok.frames,.inl J,λb hb=>⟨?_,λy c e z=>?_⟩,I.bs,dJ I.ok.rH I.sz,λb o e hb=>?_,λb hb z=>?_,I.stack,I.NQ⟩
  ·have e1:=e1
   rw[yC] at e1 e2;refine Kn (λp hp=>?_) (λy z c a b=>I.ok.inj y z c (cm a).1 (cm b).1) (jE e1)<|jE e2;rw[o7];exact JM (cm hp).2
  ·show∃c,fY.cells.lookup y=L c
   have dZ:∀k,fY.kindOf y=L k->(k= .cell\/k= .free)-> ∃c,fY.cells.lookup y=L c:=λk hk pE=>by
    unfold Env.kindOf at hk;rw[yG] at hk;obtain⟨k',e,r⟩:=LC hk;have:k'= .cell\/k'= .free:=by
     rcases r with rfl|⟨rfl,_⟩
     ·exact pE
     ·exact .inr J
    rcases this with rfl|rfl
    ·obtain⟨c,hm⟩:=Km<|jE e
     obtain⟨c',e'⟩:=mem_lookup hm;exact⟨c',by rw[yC];exact e'⟩
    ·obtain⟨c,h1,_⟩:=AV e
     exact⟨c,h1⟩
   rcases hy with hy|hy
   ·exact dZ _ hy<|.inl J
   ·exact dZ _ hy<|.inr J
  ·have z:=z
   have z:=by simpa using z
   rw[yC] at e;rcases CW (jE e) with hm|⟨_,h2,_⟩
   ·rcases FV hm with hm|⟨h1,_⟩
    ·cases hm
    ·have q:=ok.zH _ h1
     rw[z] at q;cases q
   ·rw[o7] at h2
    exact JJ h2
  ·show b≠fY.locals
   rw[hL];exact jX (wy b hb).2
  ·have e:=e
   rcases mem e with⟨h1,_⟩|⟨h1,_⟩
   ·exact(wy b hb).1.2.2.2.2.1 y c h1 z
   ·have h2:s.heap.objs.size+1<=b:=by rw[<-z];exact h1
    exact absurd (gn (wy b hb).2<|JJ h2)<|mU _
  ·rcases(wy b hb).1.2.2.2.1 with z|z
   ·exact I.ok.DT b o e z
   ·exact absurd (gn (d_ e) (dJ I.ok.rH z)) (mU _)
  ·rcases List.mem_cons.mp (I.BC b z) with z|z
   ·exact(wy b hb).1.2.1 z
   ·exact(wy b hb).1.2.2.1 z
 refine⟨gd,J,I.eC,Un.kept kp,⟨λ_=>ah,?_,λi y av e1 e2 e3=>?_⟩,λy c e=>?_,?_,λy c e=>?_,λp hp=>?_,I.bK.kept kp,by rw[Jd];exact I.bG⟩
 ·show Heap.Ns _ fY.locals _
  rw[hL];exact Heap.Ns.keeps (Heap.Ns.new ..) λb o e=>HF _ _ _ _ e
 ·obtain⟨e2,gR⟩:=Je e2
  have rS:aT.names.lookup y=L .free/\(fY.kindOf y=L .cell\/fY.kindOf y=L .free):=by
   have dZ:∀k,fY.scope.names.lookup y=L k->k= .local\/k= .cell\/k= .free->aT.names.lookup y=L .free/\(fY.kindOf y=L .cell\/fY.kindOf y=L .free):=λk hk pE=>by
    have Q8:=hk;rw[yG] at hk;obtain⟨k',e,r⟩:=LC hk;have no:¬_:=λhh=>by
     rcases ok.own _ (jE e) hh with e'|e'
     ·obtain⟨p,hp,hpy⟩:=List.mem_map.mp e'
      have e3:=ok.ix p hp;have:=hpy;rw[this] at e3;exact gR<|List.mem_map.mpr ⟨p,hp,LX hN e3 e1⟩
     ·exact e'<|jW e1
    rcases r with rfl|⟨rfl,rfl⟩
    ·rcases pE with rfl|rfl|rfl
     ·exact absurd (.inl J) no
     ·exact absurd (.inr J) no
     ·exact⟨e,.inr Q8⟩
    ·exact⟨e,.inl Q8⟩
   rcases e3 with e3|e3|e3
   ·exact dZ _ e3<|.inl J
   ·exact dZ _ e3 (.inr<|.inl J)
   ·exact dZ _ e3 (.inr<|.inr J)
  obtain⟨m,hn,hl⟩:=I.h_;have hvis:Cz X.env.scope y:=(ok.free _ (jE rS.1) J).elim (λk=>.inr<|.inl k) λk=>.inr<|.inr k;obtain⟨w,r,q⟩:=hl i y av e1 e2 hvis;refine⟨w,r,.inr ⟨rS.2,?_⟩⟩;obtain⟨c,h1,h2⟩:=AV rS.1;rcases q with⟨k,_⟩|⟨_,c',e',z⟩
  ·have k:X.env.scope.names.lookup y=L .local:=k
   rcases ok.free _ (jE rS.1) J with k'|k'<;>rw[show X.env.scope.names.lookup y=_ from k'] at k<;>cases k
  ·rw[h2] at e';cases e'
   exact⟨c,h1,z.keeps kp⟩
 ·have e:=e
  rcases mem e with⟨h1,_⟩|⟨_,z⟩
  ·obtain⟨w,z⟩:=I.cell y c h1
   exact⟨w,z.keeps kp⟩
  ·exact⟨_,z⟩
 ·show H fY.locals=ah
  rw[hL];exact I.bK.fresh<|dO _
 ·have e:=e
  rcases mem e with⟨h1,_⟩|⟨h1,_⟩
  ·exact I.jL y c h1
  ·exact I.bK.fresh<|JJ h1
 ·exact absurd (show p∈[]++[] from hp)<|by simp
theorem PK(I:Inv X ai σ H s)(hD:H D=L (.lst xs))(hz:xs.length<bH)(r:RelV y v)
 (h:∀s',Inv X ai σ (aC H D (.lst<|xs++[y])) s'->Q .none s'):b_ (bX X.prog X.w) X.A (call (.builtin "list.append") [.ref D,v]) Q E s:=by
 obtain⟨hz',aZ,n,ri,e⟩:=I.bK D _ hD;have hl:=ri.length;refine append_at e λh' sb nI=>?_;refine h {s with heap:=h'} (I.vv (by rw[hD];trivial) (.inl J) (λb u hb q=>(sb.2 b hb).trans q) ⟨_,nI⟩ ⟨by rw[iL];exact hz,aZ++[v],n+1,ri.append<|.cons r .nil,?_⟩);rw[nI];simp
def zX(X:Cx)(lC:ag Expr)(t:TT):Prop:=∀ai s(σ:St)H Q,Inv X ai σ H s->t σ H Q->b_ (bX X.prog X.w) X.A (forIn lC ao λc r=>if r=ao then do let ok<-GJ c X.env<|da c X.env;pure (Jp ok) else pure (Jp r)) (TP X ai σ Q) X.xe s
def oU:TT:=λ_ H Q=>Q ao H
theorem jh:zX X [] oU:=λ_ _ _ H _ I h=>wpAny_tests_nil ⟨H,I,h⟩
end
theorem vh{t:Sem α}{Q Q':α->de->Prop}(h:b_ aJ A t Q (λ_ _=>eW) s)(hQ:∀a s,Q a s->Q' a s):b_ aJ A t Q' E s:=kO h hQ λ_ _ z=>g_ z
theorem Qa(I:af->de->Prop)
 (turn:∀n s,I n s->b_ (bX prog w) A (pyNext it) (λr eM=>match r with
   |none=>R (.ok .next) eM
   |some v=>b_ (bX prog w) A (RQ IV it v) (λ_ VP=>b_ (bX prog w) A (FI IV env v) (λ_ jT=>
    b_ (bX prog w) A (forIn lC ao λc r=>if r=ao then do let ok<-GJ c env<|da c env;pure (Jp ok) else pure (Jp r)) (λok xw=>
     if ok=ao then b_ (bX prog w) A (da elt env) (λx VQ=>
      b_ (bX prog w) A (call (.builtin "list.append") [acc,x]) (λ_ VR=>∃m,m<n/\I m VR) (wQ (bX prog w) A env λe s'=>R (.error e) s') VQ) (wQ (bX prog w) A env λe s'=>R (.error e) s') xw
     else∃m,m<n/\I m xw) (wQ (bX prog w) A env λe s'=>R (.error e) s') jT) (wQ (bX prog w) A env λe s'=>R (.error e) s') VP) (wQ (bX prog w) A env λe s'=>R (.error e) s') eM) (wQ (bX prog w) A env λe s'=>R (.error e) s') s)
 (n:af) (h:I n s):
 tT (bX prog w) A (.compLoop (.ListComp elt [⟨IV,hZ,lC,0⟩] aT pos) 0 it acc env) R s:=by
 refine codeAny_loop J I (λn s hI=>?_) n h;refine wpAny_noted ?_;refine dh (Wo<|dh (kO (turn n s hI) (λr eM GD=>?_) λ_ _ h'=>h'))
 cases r with
 |none=>exact gc GD
 |some v=>
  refine dh (kO GD (λ_ VP h₁'=>?_) λ_ _ h'=>h');refine dh (kO h₁' (λ_ jT Ds=>dh (kO Ds (λok xw GF=>?_) λ_ _ h'=>h')) λ_ _ h'=>h')
  cases ok with
  |false=>exact gc ⟨J,GF⟩
  |true=>
   exact dh<|dh (kO GF (λx VQ h₄=>dh<|kO h₄ (λ_ VR h₅=>gc<|gc ⟨J,h₅⟩) λ_ _ h'=>h') λ_ _ h'=>h')
section
variable{X:Cx}
def mE(wi:TI)(g:TG)(tt:TT)(te:TE)(vs:ag af):TE:=λσ H Q=>wi σ H λcz U=>∀D,U D=ah-> ∃W:af->af->Hp->Prop,(∃m,W 0 m (aC U D<|.lst []))/\ ∀i m H,W i m H->(cz.lQ i H/\Q (.ref D) H)\/(cz.go i H/\ ∃Nx:Hp->Prop,(∀H',Nx H'-> ∃m',m'<m/\W (i+1) m' H')/\ ∀x H',cz.sP i H x H'->g x (c8 σ vs) H' λc9 H2=>c8 c9 vs=c8 σ vs/\tt c9 H2 λb H3=>
                                                                                                                                                       if b=ao then te c9 H3 λy H4=>∃acc,H4 D=L (.lst acc)/\acc.length<bH/\Nx (aC H4 D (.lst<|acc++[y])) else Nx H3)
theorem lc_core{σ:St}{H:Hp}{Q:VK}{wi:TI}{g:TG}{tt:TT}{te:TE}
 (hc:X.j6=ao) (hN:X.N.Nodup) (I:Inv X ai σ H s) (hi:PI X tg hZ wi) (ok:vA X.N X.env.scope aT own)
 (hg:∀s(H:Hp)(C:ak)cl fp,PG (X.j5 s H aT (jt aT cl C X.env) fp) tg g) (ht:∀s(H:Hp)(C:ak)cl fp,zX (X.j5 s H aT (jt aT cl C X.env) fp) lC tt)
 (he:∀s(H:Hp)(C:ak)cl fp,PE (X.j5 s H aT (jt aT cl C X.env) fp) elt te) (hs:∀x,C9 hZ X.env x=pure x)
 (h:mE wi g tt te (own.map (·.2)) σ H Q)
 (K8:∀D C s' m H',Inv X ai σ H' s'->Q (.ref D) H'->s'.heap.Ns C m->kP X ai H' C->CY (bX X.prog X.w) X.A X.xe use Qf (.ref D) C (.ok .next) s'):
 b_ (bX X.prog X.w) X.A (comprehension (.ListComp elt [⟨tg,hZ,lC,0⟩] aT pos) aT X.env oJ (newList []) aK (da hZ X.env) use) Qf X.xe s:=by
 have wz:∀y∈aT.names,y.2= .free-> ∃c,X.env.cells.lookup y.1=L c:=λy hy e=>by
  rcases ok.free y hy e with k|k
  ·exact I.ok.t_ _<|.inl k
  ·exact I.ok.t_ _<|.inr k
 refine wpAny_comprehension_free J hs (P_ wz) ok.kind (λy hy e=>by rw[ok.zH y hy,e])
  (cj (hi ai s σ H _ I h) λxv s1 hx=>cj hx λGL s2 h2=>?_)
 obtain⟨it,fp,tn,cz,H2,e,I2,T,my,f2,q⟩:=h2;subst e;refine EY (Sw ?_) (by show 0<=bH;decide);generalize hD:s2.heap.objs.size=D;have K5:=I2.bK.fresh<|B6 hD;obtain⟨W,⟨m0,w0⟩,turn⟩:=q D K5;generalize Dn:({s2 with heap:=s2.heap.push {cls:=.type "list",data:=.seq [].toArray}}:de)=s3;have I3:Inv X ai σ (aC H2 D<|.lst []) s3:=by
  rw[<-Dn];refine I2.kF (λb o e=>iK _ e) (B6 hD) ⟨eI _,[],0,.nil,?_⟩;rw[<-hD];exact o6 _ J
 have h3:s3.heap=s2.heap.push {cls:=.type "list",data:=.seq [].toArray}:=by rw[<-Dn]
 have sz:∀b∈fp,b<s2.heap.objs.size:=λb hb=>by
  obtain⟨o,e,_⟩:=T.obj _ _ my b hb;exact d_ e
 have f3:∀b∈fp,kP X ai (aC H2 D<|.lst []) b/\b<s3.heap.objs.size:=λb hb=>by
  have d7:=sz b hb;refine⟨⟨?_,(f2 b hb).2⟩,by rw[h3,o7];exact JM d7⟩;rw[bI (by rw[<-hD];exact jX d7)];exact(f2 b hb).1
 have BB:tn 0 s3.heap:=T.keep _ _ _ my λb _ o e=>by rw[h3];exact iK _ e
 have I4:=P0 I3 ok hN f3;have pg:=hg s3 (aC H2 D<|.lst []) s3.heap.objs.size (iz (s3.heap.objs.size+1) aT.names<|js X.env.cells aT.names []) fp;have pt:=ht s3 (aC H2 D<|.lst []) s3.heap.objs.size (iz (s3.heap.objs.size+1) aT.names<|js X.env.cells aT.names []) fp;have pe:=he s3 (aC H2 D<|.lst []) s3.heap.objs.size (iz (s3.heap.objs.size+1) aT.names<|js X.env.cells aT.names []) fp;show tT _ _ (.compStart _ 0 (.ref it) (.ref D)<|jt aT (iz _ aT.names _) s3.heap.objs.size X.env) _ {s3 with heap:=xk _ aT.names};have DO:=λb hb=>(f3 b hb).1.1;generalize AF:jt aT _ s3.heap.objs.size X.env=ce at I4 pg pt pe⊢;have cL:ce.locals=s3.heap.objs.size:=by subst AF;rfl
 generalize ZY:aC H2 D (.lst [])=H3 at I3 I4 pg pt pe w0 DO f3;generalize Ll:({s3 with heap:=xk _ aT.names}:de)=s4 at I4⊢;have EK:tn 0 s4.heap:=T.keep _ _ _ BB λb _ o e=>by rw[<-Ll];exact HF _ _ _ _<|iK _ e
 have qN:∀{aS:St}{H':Hp}{s':de},Inv _ [] aS H' s'->(∀b∈fp,H' b=ah)-> ∀b∈fp,kP (X.j5 s3 H3 aT ce fp) [] H' b:=λ{aS H' s'}I' hn b hb=>
  ⟨hn b hb,(I'.ok.As b hb).1,I'.ok.Au b hb,.inl hb,λx c e=>(I'.ok.As b hb).2 x c e,λp hp=>absurd (show p∈[]++[] from hp)<|by simp⟩
 have DG:tT (bX X.prog X.w) X.A (.compLoop (.ListComp elt [⟨tg,hZ,lC,0⟩] aT pos) 0 (.ref it) (.ref D) ce) (CY (bX X.prog X.w) X.A X.xe use Qf (.ref D) s3.heap.objs.size) s4:=by
  refine Qa (λn s'=>∃i H',Inv _ [] _ H' s'/\tn i s'.heap/\(∀b∈fp,H' b=ah)/\W i n H') ?_ m0 ⟨0,H3,I4,EK,DO,w0⟩
  rintro n s5 ⟨i,H5,I5,st5,n5,w5⟩
  rcases turn i n H5 w5 with⟨lQ,qq⟩|⟨go,Nx,hNx,step⟩
  ·have td:=T.done (X.j5 s3 H3 aT ce fp) J J J hc i [] s5 _ H5 (λ_ _=>eW) I5 (qN I5 n5) st5 lQ
   refine vh td λr s6⟨hr,I6⟩=>?_;subst hr;have I7:=I3.P6 I6.os I6.base I6.bK I6.eC λb hb=>⟨(f3 b hb).1.2.2.2.1,(f3 b hb).1.2.1,(f3 b hb).1.2.2.2.2.1,(f3 b hb).1.2.2.2.2.2⟩;have nC:=by
    have z:=I6.free;rw[cL] at z;exact z
   obtain⟨m,hn,_⟩:=I6.h_;rw[cL] at hn;exact K8 D s3.heap.objs.size s6 m H5 I7 qq hn<|I3.yu (dO _) nC
  ·have ti:=T.item (X.j5 s3 H3 aT ce fp) J J J hc i [] s5 _ H5 (λ_ _=>eW) I5 (qN I5 n5) st5 go
   refine vh ti λr s6⟨u,hr,h6⟩=>?_;subst hr;refine vh h6 λ_ s7⟨x,H7,I7,r7,y7,st7,n7⟩=>?_;have Ju:=I7.Mp (qN I7 n7)<|T.obj _ _ st7;refine vh (pg _ s7 _ H7 x u _ Ju r7<|step x H7 y7) λ_ s8⟨vz,H8,I8,hw8,q8⟩=>?_;refine vh (pt _ s8 vz H8 _ I8 q8) λb s9⟨H9,I9,q9⟩=>?_;have dj:∀{s':de}{H':Hp},Inv _ ([]++Ec fp s7.heap) vz H' s'->Nx H'-> ∃m,m<n/\ ∃i H',Inv (X.j5 s3 H3 aT ce fp) [] _ H' s'/\tn i s'.heap/\(∀b∈fp,H' b=ah)/\W i m H':=λ{s' H'}I' nx=>by
    obtain⟨m',hm,w'⟩:=hNx H' nx;have Eb:∀b∈fp,∀o,s7.heap.get? b=L o->s'.heap.get? b=L o/\H' b=ah:=λb hb o e=>
     let z:=I'.jg (b,o) (tj _ (tj _<|GY hb e))
     ⟨z.1,z.2.1⟩
    have hl:(c8 σ (own.map (·.2))).length=vz.length:=by rw[<-hw8,Jd]
    refine⟨m',hm,i+1,H',(I'.ES).sN hl λj v e=>?_,T.keep _ _ _ st7 λb hb o e=>(Eb b hb o e).1,λb hb=>?_,w'⟩
    ·rw[<-hw8] at e
     exact(Je e).1
    ·obtain⟨o,e,_⟩:=T.obj _ _ st7 b hb
     exact(Eb b hb o e).2
   cases b with
   |false=>
    exact dj I9 q9
   |true=>
    refine vh (pe _ s9 vz H9 _ I9 q9) λz Bq⟨yv,xG,I10,r10,acc,hD10,hz10,nx⟩=>?_;exact PK (X:=X.j5 s3 H3 aT ce fp) I10 hD10 hz10 r10 λs11 Jt=>dj Jt nx
 exact Y3 DG<|T.uW X.A 0 _ _ _ EK DG
theorem Tu(hc:X.j6=ao)(hN:X.N.Nodup)(hi:PI X tg hZ wi)(ok:vA X.N X.env.scope aT own)
 (hg:∀s H C cl fp,PG (X.j5 s H aT (jt aT cl C X.env) fp) tg g) (ht:∀s H C cl fp,zX (X.j5 s H aT (jt aT cl C X.env) fp) lC tt)
 (he:∀s H C cl fp,PE (X.j5 s H aT (jt aT cl C X.env) fp) elt te) (hs:∀x,C9 hZ X.env x=pure x:=by intro _;rfl):
 PE X (.ListComp elt [⟨tg,hZ,lC,0⟩] aT pos) (mE wi g tt te (own.map (·.2))):=by
 intro ai s σ H Q I h;refine lc_core hc hN I hi ok hg ht he hs h λD C s' m H' I' q hn f=>⟨m,hn,λAB sb=>?_⟩;obtain⟨f0,f1,f2,f3,f4,f5⟩:=f;exact⟨.ref D,H',I'.turned (λb o hb e=>(sb.2 b hb).trans e) f0 f1 f3 f4 f5,J,q⟩
theorem BF(hk:env.scope.kind= .function)(hy:env.scope.names.lookup y=L .local)(hl:(py.line==pos.line)=ao)
 (ha:(aT.names.any λ(n,k)=>n==y&&(k== .local||k== .cell))=aK):zD (.ListComp elt gs aT pos) (L<|.Name y py) l env=pure ao:=by
 have ky:env.kindOf y=L .local:=hy;have hb:env.blockKind= .function:=by unfold Env.blockKind;rw[hk];rfl
 unfold zD;simp only[hb,ky,ha,Expr.pos,hl];rfl
end
theorem GR{lo:ae}{g:TG}{tt:TT}{te:TE}{Qd:Hp->Prop}(Pv:af->Hp->Prop)(h0:Pv 0 (aC U D<|.lst []))
 (hs:∀i H,i<n->Pv i H->g (.int<|lo+i) (c8 σ vs) H λc9 H2=>c8 c9 vs=c8 σ vs/\tt c9 H2 λb H3=>
   if b=ao then te c9 H3 λy H4=>∃acc,H4 D=L (.lst acc)/\acc.length<bH/\Pv (i+1) (aC H4 D (.lst<|acc++[y])) else Pv (i+1) H3) (hd:∀H,Pv n H->Qd H):
 ∃W:af->af->Hp->Prop,(∃m,W 0 m (aC U D<|.lst []))/\ ∀i m H,W i m H->((sY lo n).lQ i H/\Qd H)\/((sY lo n).go i H/\ ∃Nx:Hp->Prop,(∀H',Nx H'-> ∃m',m'<m/\W (i+1) m' H')/\ ∀x H',(sY lo n).sP i H x H'->g x (c8 σ vs) H' λc9 H2=>c8 c9 vs=c8 σ vs/\tt c9 H2 λb H3=>
                                                                      if b=ao then te c9 H3 λy H4=>∃acc,H4 D=L (.lst acc)/\acc.length<bH/\Nx (aC H4 D (.lst<|acc++[y])) else Nx H3):=by
 refine⟨λi m H=>m=n-i/\i<=n/\Pv i H,⟨n,by simp,eI _,h0⟩,?_⟩
 rintro i m H ⟨rfl,hi,p⟩
 by_cases d7:i<n
 ·refine .inr ⟨d7,Pv<|i+1,λH' p'=>⟨n-(i+1),om,J,d7,p'⟩,λx H' y=>?_⟩
  obtain⟨e,y⟩:=y;subst e y;exact hs i _ d7 p
 ·have e:i=n:=by omega
  subst e;exact .inl ⟨dO _,hd H p⟩
theorem GQ{K:aq}{g:TG}{tt:TT}{te:TE}{Qd:Hp->Prop}(Pv:af->Hp->Prop)(h0:Pv 0 (aC U D<|.lst []))(hl:∀i H,i<=xs.length->Pv i H->SqL K H a xs)
 (hs:∀i x H,xs[i]? =L x->Pv i H->g x (c8 σ vs) H λc9 H2=>c8 c9 vs=c8 σ vs/\tt c9 H2 λb H3=>
   if b=ao then te c9 H3 λy H4=>∃acc,H4 D=L (.lst acc)/\acc.length<bH/\Pv (i+1) (aC H4 D (.lst<|acc++[y])) else Pv (i+1) H3) (hd:∀H,Pv xs.length H->Qd H):
 ∃W:af->af->Hp->Prop,(∃m,W 0 m (aC U D<|.lst []))/\ ∀i m H,W i m H->((vF K a).lQ i H/\Qd H)\/((vF K a).go i H/\ ∃Nx:Hp->Prop,(∀H',Nx H'-> ∃m',m'<m/\W (i+1) m' H')/\ ∀x H',(vF K a).sP i H x H'->g x (c8 σ vs) H' λc9 H2=>c8 c9 vs=c8 σ vs/\tt c9 H2 λb H3=>
                                                                      if b=ao then te c9 H3 λy H4=>∃acc,H4 D=L (.lst acc)/\acc.length<bH/\Nx (aC H4 D (.lst<|acc++[y])) else Nx H3):=by
 refine⟨λi m H=>m=xs.length-i/\i<=xs.length/\Pv i H,⟨xs.length,by simp,eI _,h0⟩,?_⟩
 rintro i m H ⟨rfl,hi,p⟩
 have q:=hl i H hi p;by_cases d7:i<xs.length
 ·refine .inr ⟨⟨xs,xs[i],q,by simp[d7]⟩,Pv<|i+1,λH' p'=>⟨xs.length-(i+1),om,J,d7,p'⟩,λx H' y=>?_⟩
  obtain⟨e,y⟩:=y;subst e;exact hs i x _ (y xs q) p
 ·have e:i=xs.length:=by omega
  subst e;exact .inl ⟨⟨xs,q,dO _⟩,hd H p⟩
def Kh(N:ag ax)(sc aT:lZ)(own:ag<|ax×af):c_:=(match aT.kind with| .function=>ao|_=>aK)&&(aT.names.all λy=>decide (aT.names.lookup y.1=L y.2))&&(own.all λp=>decide (N[p.2]? =L p.1))&&
                                               (aT.names.all λy=>match y.2 with
                                                 | .free=>(match sc.names.lookup y.1 with|some .cell=>ao|some .free=>ao|_=>aK)
                                                 | .local=>decide (y.1∈own.map (·.1))||decide (y.1∉N)
                                                 | .cell=>decide (y.1∈own.map (·.1))||decide (y.1∉N)
                                                 |_=>ao)
theorem YN(h:Kh N sc aT own=ao):vA N sc aT own:=by
 unfold Kh at h;simp only[eR,Ou,j7] at h;obtain⟨⟨⟨h1,h2⟩,h3⟩,h4⟩:=h;refine⟨?_,h2,h3,λy hy e=>?_,λy hy e=>?_⟩
 ·split at h1
  ·assumption
  ·cases h1
 ·have q:=h4 y hy
  simp[e] at q
  split at q<;>first|exact .inl (by assumption)|exact .inr (by assumption)|cases q
 ·have q:=h4 y hy
  rcases e with e|e<;>(simp only[e,E4,j7] at q;exact q)
end L2
namespace L2
open PySem PySem.Spec PyProof.Rows
section
variable{κ:Type}[DecidableEq κ]
def fw(aW:ag<|κ×V)(k:κ):aw V:=(aW.find? λkv=>decide (kv.1=k)).map (·.2)
def iU(aW:ag<|κ×V)(k:κ)(v:V):ag<|κ×V:=if(aW.any λkv=>decide (kv.1=k))=ao then aW.map (λkv=>if kv.1=k then(kv.1,v) else kv) else aW++[(k,v)]
theorem qQ{r:ag (κ×V)}{k:κ}(e:p.1=k):fw (p::r) k=L p.2:=by simp[fw,List.find?_cons,e]
theorem qP{r:ag (κ×V)}{k:κ}(e:¬p.1=k):fw (p::r) k=fw r k:=by simp[fw,List.find?_cons,e]
theorem ET(k:κ):∀aW,(aW.any λkv=>decide (kv.1=k))=(fw aW k).isSome
 |[]=>rfl
 |p::r=>by
  rw[xH];by_cases e:p.1=k
  ·simp[qQ e,dD e,WA,Option.isSome_some]
  ·rw[qP e,gW e,sU];exact ET k r
theorem Wc(k j:κ)(y:V):∀aW,fw (aW.map λkv=>if kv.1=k then(kv.1,y) else kv) j=(fw aW j).map λx=>if j=k then y else x
 |[]=>rfl
 |p::r=>by
  have ih:=Wc k j y r;rw[kr];by_cases h:p.1=k
  ·rw[aH h]
   by_cases e:p.1=j
   ·rw[qQ (p:=(p.1,y)) e,qQ e,vK,aH<|e.symm.trans h]
   ·rw[qP (p:=(p.1,y)) e,qP e,ih]
  ·rw[ay h]
   by_cases e:p.1=j
   ·rw[qQ e,qQ e,vK,ay λz=>h<|e.trans z]
   ·rw[qP e,qP e,ih]
theorem Wd(k j:κ)(y:V):∀aW,fw aW k=ah->fw (aW++[(k,y)]) j=if j=k then L y else fw aW j
 |[],_=>by
  by_cases e:k=j
  ·rw[aH e.symm];exact qQ e
  ·rw[ay λz=>e z.symm];exact qP e
 |p::r,hn=>by
  rw[zN];have hk:¬p.1=k:=λz=>by rw[qQ z] at hn;cases hn
  rw[qP hk] at hn;have ih:=Wd k j y r hn;by_cases e:p.1=j
  ·rw[qQ e,qQ e,ay λz=>hk<|e.trans z]
  ·rw[qP e,qP e,ih]
theorem BH(aW:ag<|κ×V)(k j:κ)(y:V):fw (iU aW k y) j=if j=k then L y else fw aW j:=by
 unfold iU;by_cases a:(aW.any λkv=>decide (kv.1=k))=ao
 ·rw[aH a,Wc]
  rw[ET] at a;by_cases e:j=k
  ·obtain⟨x,hx⟩:=Option.isSome_iff_exists.mp a
   rw[aH e,e,hx,vK,aH J]
  ·rw[ay e]
   cases fw aW j with
   |none=>rfl
   |some x=>rw[vK,ay e]
 ·rw[ay a]
  refine Wd k j y aW ?_;rw[ET] at a
  cases q:fw aW k with
  |none=>rfl
  |some x=>rw[q] at a;exact(a J).elim
theorem RM(aW:ag<|κ×V)(k:κ)(v:V):(iU aW k v).length<=aW.length+1:=by
 unfold iU
 split
 ·rw[hJ];omega
 ·rw[iL,xJ,List.length_nil];omega
theorem putK_new{k:κ}(v:V)(h:fw aW k=ah):iU aW k v=aW++[(k,v)]:=by
 unfold iU;rw[ET,h];exact ay dc
theorem kW.Ls(r:kW o u):o.isSome=u.isSome:=by
 cases o with
 |none=>cases u with
  |none=>rfl
  |some _=>exact(show eW from r).elim
 |some _=>cases u with
  |none=>exact(show eW from r).elim
  |some _=>rfl
theorem KV.val{vs:ag (κ×aE)}(r:KV aW vs)(k:κ):kW (fw aW k)<|EU vs k:=by
 induction r with
 |nil=>exact Cv
 | @cons p q ps qs h t ih=>
  obtain⟨h1,h2⟩:=h;by_cases e:p.1=k
  ·have e':=h1.symm.trans e
   have b:EU (q::qs) k=L q.2:=by simp[EU,List.find?_cons,e']
   rw[qQ e,b];exact h2
  ·have e':¬q.1=k:=λz=>e<|h1.trans z
   have b:EU (q::qs) k=EU qs k:=by simp[EU,List.find?_cons,e']
   rw[qP e,b];exact ih
theorem KV.any{vs:ag (κ×aE)}(r:KV aW vs)(k:κ):(aW.any λkv=>decide (kv.1=k))=vs.any λkv=>decide (kv.1=k):=by
 induction r with
 |nil=>rfl
 |cons h t ih=>rw[xH,xH,ih,h.1]
theorem KV.Mz{vs:ag (κ×aE)}(r:KV aW vs)(k:κ){y:V}{u:aE}(ry:RelV y u):KV (aW.map λkv=>if kv.1=k then(kv.1,y) else kv) (vs.map λkv=>if kv.1=k then(kv.1,u) else kv):=by
 induction r with
 |nil=>exact .nil
 | @cons p q ps qs h t ih=>
  rw[kr,kr];refine .cons ?_ ih;obtain⟨h1,h2⟩:=h;by_cases e:p.1=k
  ·rw[aH e,aH<|h1.symm.trans e];exact⟨h1,ry⟩
  ·rw[ay e,ay λz=>e<|h1.trans z];exact⟨h1,h2⟩
theorem KV.put{vs:ag (κ×aE)}(r:KV aW vs)(k:κ){y:V}{u:aE}(ry:RelV y u):KV (iU aW k y)<|stored vs k u:=by
 unfold iU stored;rw[r.any k];by_cases e:(vs.any λkv=>decide (kv.1=k))=ao
 ·rw[aH e,aH e];exact r.Mz k ry
 ·rw[ay e,ay e];exact XA r ⟨J,ry⟩
theorem KV.length{vs:ag (κ×aE)}(r:KV aW vs):aW.length=vs.length:=OV r
end
theorem AU(r:RelV (kV k) u):(nQ P w).is k u=ao:=by
 cases k with
 |inl i=>obtain⟨t,e⟩:=(show∃t,u=J' i t from r);subst e;exact mixKind_int P w i t
 |inr x=>obtain⟨t,e⟩:=(show∃t,u=J_ x t from r);subst e;exact mixKind_str P w x t
theorem Rx:∀{ks:ag gV}{us:ag aE},cI (ks.map kV) us->ItemsAre (nQ P w) ks us
 |[],_,r=>by rw[List.map_nil] at r;cases r;exact .nil
 |k::ks,_,r=>by
  cases r with
  |cons h t=>exact .cons (AU h)<|Rx t
abbrev KT(H:Hp):ag (ag gV×V)->ag (ag gV×ak×aE)->Prop:=Paired λp q=>p.1=q.1/\H q.2.1=L (.tup<|p.1.map kV)/\RelV p.2 q.2.2
theorem KT.val(r:KT H aW xs)(k:ag gV):kW (fw aW k) ((yh xs k).map (·.2)):=by
 induction r with
 |nil=>exact Cv
 | @cons p q ps qs h t ih=>
  obtain⟨h1,_,h2⟩:=h;by_cases e:p.1=k
  ·have e':=h1.symm.trans e
   have b:yh (q::qs) k=L q.2:=by simp[yh,List.find?_cons,e']
   rw[qQ e,b];exact h2
  ·have e':¬q.1=k:=λz=>e<|h1.trans z
   have b:yh (q::qs) k=yh qs k:=by simp[yh,List.find?_cons,e']
   rw[qP e,b];exact ih
theorem KT.Mz(r:KT H aW xs)(k:ag gV)(ry:RelV y u):KT H (aW.map λkv=>if kv.1=k then(kv.1,y) else kv) (xs.map<|putAt k u):=by
 induction r with
 |nil=>exact .nil
 | @cons p q ps qs h t ih=>
  rw[kr,kr];refine .cons ?_ ih;obtain⟨h1,h2,h3⟩:=h;unfold putAt;by_cases e:p.1=k
  ·rw[aH e,aH<|h1.symm.trans e];exact⟨h1,h2,ry⟩
  ·rw[ay e,ay λz=>e<|h1.trans z];exact⟨h1,h2,h3⟩
theorem KT.put(r:KT H aW xs)(k:ag gV)(hb:H b=L (.tup<|k.map kV))(ry:RelV y u):KT H (iU aW k y)<|storedH xs k b u:=by
 have e:(aW.any λkv=>decide (kv.1=k))=(yh xs k).isSome:=by
  rw[ET,(r.val k).Ls,Xy]
 unfold iU storedH;rw[e];by_cases q:(yh xs k).isSome=ao
 ·rw[aH q,aH q];exact r.Mz k ry
 ·rw[ay q,ay q];exact XA r ⟨J,hb,ry⟩
theorem KT.keeps(r:KT H aW xs)(ht:∀b ys,H b=L (.tup ys)->H' b=L (.tup ys)):KT H' aW xs:=Paired.LI r λ_ _ z=>⟨z.1,ht _ _ z.2.1,z.2.2⟩
section
variable{P:cN}{w:World}{H:Hp}{h:b9}{a:ak}
theorem T'(ok:eG P w H h)(e:Rd H a u):gO P w H h a u:=e.ok ok
theorem F5(ok:eG P w H h)(e:Rd H a<|.dK aW):aW.length<=bH/\(a==xu)=aK/\ ∃vs,KV aW vs/\h.DictOf (nQ P w) a vs:=show gO P w H h a _ from T' ok e
theorem Zl(ok:eG P w H h)(e:H a=L (.dK aW)):aW.length<=bH/\(a==xu)=aK/\ ∃vs,KV aW vs/\h.DictOf (nQ P w) a vs:=F5 ok<|.inl e
theorem GP(ok:eG P w H h)(e:H a=L (.tup<|ks.map kV)):(I0<|nQ P w).is h ks a:=by
 obtain⟨_,aZ,r,o,h1,h2,n,h3⟩:=(show gO P w H h a (.tup<|ks.map kV) from ok a _ e);exact⟨o,aZ.toArray,n,h1,h2,h3,by simpa using Rx r⟩
theorem F6(ok:eG P w H h)(e:Rd H a<|.dT aW):aW.length<=bH/\(a==xu)=aK/\ ∃xs,KT H aW xs/\h.DictOfH (I0<|nQ P w) a xs:=by
 obtain⟨z,y,xs,r,o,es,ep,h1,h2,h3,h4,h5⟩:=(show gO P w H h a _ from T' ok e);refine⟨z,y,xs,r,o,es,ep,h1,h2,h3,h4,λx hx=>?_,h5⟩;have all:∀{l:ag _}{m:ag _},KT H l m-> ∀x∈m,(I0<|nQ P w).is h x.1 x.2.1:=by
  intro l m q
  induction q with
  |nil=>intro x hx;exact nomatch hx
  | @cons p q ps qs hq t ih=>
   intro x hx;rcases List.mem_cons.mp hx with e|hx
   ·subst e
    exact GP ok (by rw[<-hq.1];exact hq.2.1)
   ·exact ih x hx
 exact all r x hx
theorem Zn(ok:eG P w H h)(e:H a=L (.dT aW)):aW.length<=bH/\(a==xu)=aK/\ ∃xs,KT H aW xs/\h.DictOfH (I0<|nQ P w) a xs:=F6 ok<|.inl e
end
def oZ(H:Hp)(a:ak)(y:V)(r:aw V):Prop:=(∃aW k,Rd H a (.dK aW)/\y=kV k/\r=fw aW k)\/ ∃aW k b,Rd H a (.dT aW)/\y= .ref b/\H b=L (.tup<|k.map kV)/\r=fw aW k
def zK(H:Hp)(a:ak)(y v:V)(H':Hp):Prop:=(∃aW k,H a=L (.dK aW)/\y=kV k/\aW.length<bH/\H'=aC H a (.dK<|iU aW k v))\/
 ∃aW k b,H a=L (.dT aW)/\y= .ref b/\H b=L (.tup<|k.map kV)/\aW.length<bH/\H'=aC H a (.dT<|iU aW k v)
theorem oZ.k{k:gV}(e:H a=L (.dK aW)):oZ H a (kV k)<|fw aW k:=.inl ⟨aW,k,.inl e,J,J⟩
theorem zK.k{k:gV}(e:H a=L (.dK aW))(hl:aW.length<bH):zK H a (kV k) v<|aC H a (.dK<|iU aW k v):=.inl ⟨aW,k,e,J,hl,J⟩
section
variable{X:Cx}{ai:ag (ak×eN)}{σ:St}{H:Hp}{s:de}{a:ak}{y v:V}{u r:aE}{o:aw V}{A:oa}{E:aE->de->Prop}
theorem Inv.Kd(I:Inv X ai σ H s):xu<s.heap.objs.size:=by
 have h:=(I.gX.tX.keeps I.bk).lt;exact Xp dc h
theorem Y6(hu:A.units+1<ow)(I:Inv X ai σ H s)(g:oZ H a y<|L v)(ry:RelV y u)(h:∀w' s',Inv X ai σ H s'->RelV v w'->Q w' s'):b_ (bX X.prog X.w) A (yx (.ref a) u) Q E s:=by
 rcases g with⟨aW,k,e,ey,l⟩|⟨aW,k,b,e,ey,eb,l⟩
 ·subst ey
  obtain⟨z,hd,vs,mx,dd⟩:=F5 I.bK e;obtain⟨w',hw,uR⟩:=kW.Ng (by rw[l];exact mx.val k);exact wpAny_getItem_of (AU ry) dd.mapOf hw<|h w' _ (I.lR _) uR
 ·subst ey
  cases(show u=j3 b from ry)
  obtain⟨z,hd,xs,mx,dd⟩:=F6 I.bK e;obtain⟨w',hw,uR⟩:=kW.Ng (by rw[l];exact mx.val k);obtain⟨p,hp,lu⟩:=Option.map_eq_some_iff.mp hw;refine wpAny_getItem_heap (V8 hu) (GP I.bK eb) dd hp ?_;rw[lu];exact h w' _ (I.lR _) uR
theorem Y7(hu:A.units+1<ow)(I:Inv X ai σ H s)(g:oZ H a y o)(ry:RelV y u)(h:∀s',Inv X ai σ H s'->Q (.bool<|!o.isSome) s'):b_ (bX X.prog X.w) A (nz .NotIn u<|.ref a) Q E s:=by
 rcases g with⟨aW,k,e,ey,l⟩|⟨aW,k,b,e,ey,eb,l⟩
 ·subst ey
  obtain⟨z,hd,vs,mx,dd⟩:=F5 I.bK e;refine wpAny_notIn_of (AU ry) hd dd.mapOf ?_;rw[<-(mx.val k).Ls,<-l];exact h _<|I.lR _
 ·subst ey
  cases(show u=j3 b from ry)
  obtain⟨z,hd,xs,mx,dd⟩:=F6 I.bK e;refine wpAny_notIn_heap (V8 hu) (GP I.bK eb) hd dd ?_;have q:=(mx.val k).Ls;rw[Xy] at q;rw[<-q,<-l];exact h _<|I.lR _
theorem Qe(I:Inv X ai σ H s)(mu:B5<|H a)(hs:E8 a s.heap h')(he:∃q,h'.get? a=L q)(new:gO X.prog X.w (aC H a ob) h' a ob):Inv X ai σ (aC H a ob) {s with heap:=h',toks:=t'}:=I.vv mu (.inl J) (λb q hb z=>(hs.2 b hb).trans z) he new
theorem Zk(z:aW.length<=bH)(hd:(a==xu)=aK)(mx:KV aW vs)(dd:h'.DictOf (nQ P w) a vs):gO P w H' h' a<|.dK aW:=⟨z,hd,vs,mx,dd⟩
theorem Y8(hu:A.units+1<ow)(I:Inv X ai σ H s)(g:zK H a y v H')(ry:RelV y u)(rv:RelV v r)(h:∀s',Inv X ai σ H' s'->Q () s'):b_ (bX X.prog X.w) A (setItem (.ref a) u r) Q E s:=by
 rcases g with⟨aW,k,e,ey,l,eH⟩|⟨aW,k,b,e,ey,eb,l,eH⟩
 ·subst ey eH
  obtain⟨z,hd,vs,mx,dd⟩:=Zl I.bK e;have hz:vs.length<=bH:=by rw[<-mx.length];exact z
  have hl:(iU aW k v).length<=bH:=by have:=RM aW k v;omega
  refine wpAny_setItem_pairs (AU ry) dd λh' FY hs=>h _ ?_;have he:∃q,h'.get? a=L q:=let⟨q,_,_,hq,_⟩:=FY;⟨q,hq⟩;exact Qe I (by rw[e];exact Cv) hs he<|Zk hl hd (mx.put k rv) FY
 ·subst ey eH
  cases(show u=j3 b from ry)
  obtain⟨z,hd,xs,mx,dd⟩:=Zn I.bK e;have hz:xs.length<=bH:=by rw[<-OV mx];exact z
  have hl:(iU aW k v).length<=bH:=by have:=RM aW k v;omega
  refine wpAny_setItem_heap (V8 hu) (GP I.bK eb) dd λh' FY hs=>h _ ?_;obtain⟨q,es,ep,hq,h2,h3,h4,_,h5⟩:=FY;refine Qe I (by rw[e];exact Cv) hs ⟨q,hq⟩ ⟨hl,hd,_,(mx.put k eb rv).keeps λc ys ec=>?_,q,es,ep,hq,h2,h3,h4,h5⟩;rw[bI<|eF ec e (λz=>nomatch z)];exact ec
end
def JP(i:Expr):Prop:=∀ov iv,NU i aK ov iv=operate [ov,iv] (yx ov iv)
theorem VN{T id:yf}
 (hl:typeLookup (.type T) "__getitem__"=pure (L<|.builtin id)) (hs:JP p8)
 (h:b_ (bX prog w) A (da jB env) (λo eM=>b_ (bX prog w) A (da p8 env) (λi jT=>jT.TypeIs o T/\b_ (bX prog w) A (yx o i) Q E jT) E eM) E s):
 b_ (bX prog w) A (da (.Subscript jB p8 pos) env) Q E s:=by
 refine Pu (kO h (λo eM GD=>kO GD (λi jT Ds=>?_) λ_ _ x=>x) λ_ _ x=>x);obtain⟨hT,Ds⟩:=Ds;refine dh ?_;refine dh<|wpAny_specialOf hT hl ?_;have dj:b_ (bX prog w) A (NU p8 aK o i) (λr xw=>b_ (bX prog w) A (letTemporaryGo jB o r>>=λ_=>pure r) Q E xw) E jT:=by
  rw[hs o i];exact wpAny_operating<|kO Ds (λr xw GF=>dh (wpAny_letTemporaryGo<|gc GF)) λ_ _ x=>x
 first
  |exact gc<|dh dj
  |exact dh (gc<|dh dj)
  |exact dh dj
theorem Zh{σ:St}(I:Inv X ai σ H s)(g:oZ H a y o):s.TypeIs (.ref a) "dict":=by
 rcases g with⟨aW,k,e,_,_⟩|⟨aW,k,b,e,_,_,_⟩
 ·obtain⟨_,_,vs,_,dd⟩:=F5 I.bK e
  exact dd.typeIs
 ·obtain⟨_,_,xs,_,dd⟩:=F6 I.bK e
  exact dd.typeIs
def EM(td ty:TE):TE:=λσ H Q=>td σ H λx U=>ty σ U λy H2=>∃a v,x= .ref a/\oZ H2 a y (L v)/\Q v H2
def tDNotIn(ty td:TE):TE:=λσ H Q=>ty σ H λy U=>td σ U λx H2=>∃a o,x= .ref a/\oZ H2 a y o/\Q (.bl<|!o.isSome) H2
def sDPut(td ty tv:TE):TS:=λD σ H=>tv σ H λv U=>td σ U λx H2=>ty σ H2 λy H3=>∃a H4,x= .ref a/\zK H3 a y v H4/\D.nx σ H4
section
variable{X:Cx}{o i e jB:Expr}{pos oJ zF:gP}{td ty tv:TE}
theorem oG(hu:X.A.units+1<ow)(ho:PE X o td)(hi:PE X i ty)(hs:JP i):PE X (.Subscript o i pos)<|EM td ty:=by
 intro ai s σ H Q I h;refine VN PySem.F.slot_dict_getitem.lookup hs (cj (ho ai s σ H _ I h) λu s1⟨x,U,I1,rx,q1⟩=>cj (hi ai s1 σ U _ I1 q1) λiv s2⟨y,H2,I2,ry,a,v,ex,g,q2⟩=>?_);subst ex;obtain rfl:u=j3 a:=rx;exact⟨Zh I2 g,Y6 hu I2 g ry λw' s3 I3 uR=>⟨v,H2,I3,uR,q2⟩⟩
theorem pc_dnotin(hu:X.A.units+1<ow)(hi:PE X i ty)(ho:PE X o td):PC X .NotIn i o<|tDNotIn ty td:=by
 intro ai s σ H Q I h;refine cj (hi ai s σ H _ I h) λiv s1⟨y,U,I1,ry,q1⟩=>cj (ho ai s1 σ U _ I1 q1) λu s2⟨x,H2,I2,rx,a,ov,ex,g,q2⟩=>?_;subst ex;obtain rfl:u=j3 a:=rx;exact Y7 hu I2 g ry λs3 I3=>⟨.bl _,H2,I3,J,q2⟩
theorem TV(hu:X.A.units+1<ow)(ho:PE X o td)(hi:PE X i ty)(hv:PE X jB tv)(hs:zD jB (L<|.Subscript o i oJ) pos.line X.env=pure aK):PS X (.Assign [.Subscript o i oJ] jB pos)<|sDPut td ty tv:=by
 intro ai s σ H D I h;refine wpAny_Assign_Subscript (cj (hv ai s σ H _ I h) λr s1⟨v,U,I1,rv,q1⟩=>cj (ho ai s1 σ U _ I1 q1) λu s2⟨x,H2,I2,rx,q2⟩=>cj (hi ai s2 σ H2 _ I2 q2) λiv s3⟨y,H3,I3,ry,a,H4,ex,g,q3⟩=>?_) hs;subst ex;obtain rfl:u=j3 a:=rx;exact Y8 hu I3 g ry rv λs4 I4=>⟨σ,H4,I4,q3⟩
end
theorem Zj(h:b9)(hb:xu<h.objs.size):gO P w H (h.push {cls:=.type "dict",data:=.dict #[]}) h.objs.size<|.dK []:=⟨eI _,beq_eq_false_iff_ne.mpr (dy<|jX hb),[],.nil,Heap.DictOf.new h⟩
def tDNewK:TE:=λ_ H Q=>∀p,H p=ah->Q (.ref p) (aC H p<|.dK [])
section
variable{X:Cx}{pos:gP}
theorem Ts:PE X (.Dict [] [] pos) tDNewK:=λai s σ H Q I h=>
 wpAny_Dict_empty ⟨.ref s.heap.objs.size,_,I.kF (λ_ _ q=>iK _ q) (dO _)<|Zj s.heap I.Kd,J,h _ (I.bK.fresh<|dO _)⟩
end
end L2
namespace L2
open PySem PySem.Spec PyProof.Rows
section
variable{X:Cx}{ai:ag (ak×eN)}{σ:St}{H:Hp}{s:de}{h':b9}
theorem Inv.turnedL{ch:ag ak}(I:Inv X ai σ H s)(k:∀b o,b∉ch->s.heap.get? b=L o->h'.get? b=L o)(hf:∀b∈ch,kP X ai H b):Inv X ai σ H {s with heap:=h',toks:=t'}:=by
 have wO:∀b u,H b=L u->b∉ch:=λb u e z=>by
  have q:=(hf b z).1;rw[q] at e;cases e
 refine I.step (λb hb=>⟨(hf b hb).2.2.2.1,(hf b hb).2.1,(hf b hb).2.2.2.2.1,(hf b hb).2.2.2.2.2⟩) (λb o _ _ hc e _=>k b o hc e) (λb o _ _ hc e _=>⟨o.slots,k b o hc e⟩)
  (λ_ _ _ _ n=>n) (λb o hc e=>⟨o,k b o hc e⟩) (λ_ _ e=>e) (λ_ _ _ e=>e) (λb ps e=>⟨#[],by rw[e];simp⟩) (λm hm=>?_) (λb u e=>?_) I.eC
 ·obtain⟨o,es,ep,ho,r⟩:=hm
  exact⟨o,es,ep,k _ o (λz=>(hf _ z).2.1 J) ho,r⟩
 ·refine(I.bK b u e).vd (λc v hc q=>k c v ?_ q) (λ_ q=>q) λ_ _ q=>q
  rcases hc with z|z
  ·rw[z];exact wO b u e
  ·exact wO c _ z
theorem Inv.V9{ch:ag ak}{T:ak}(I:Inv X ai σ H s)(k:∀b o,b∉ch->s.heap.get? b=L o->h'.get? b=L o)(hf:∀b∈ch,kP X ai H b)(hT:s.heap.objs.size<=T)
 (new:gO X.prog X.w (aC H T ob) h' T ob):Inv X ai σ (aC H T ob) {s with heap:=h',toks:=t'}:=by
 have hn:=I.bK.fresh hT;have wO:∀b u,H b=L u->b∉ch:=λb u e z=>by
  have q:=(hf b z).1;rw[q] at e;cases e
 refine I.step (λb hb=>⟨(hf b hb).2.2.2.1,(hf b hb).2.1,(hf b hb).2.2.2.2.1,(hf b hb).2.2.2.2.2⟩) (λb o _ _ hc e _=>k b o hc e) (λb o _ _ hc e _=>⟨o.slots,k b o hc e⟩)
  (λb o _ e n=>?_) (λb o hc e=>⟨o,k b o hc e⟩) (λb xs e=>?_) (λb o u e=>?_) (λb ps e=>⟨#[],?_⟩) (λm hm=>?_) (λb u e=>?_) I.eC
 ·rw[bI (jX<|gn (d_ e) hT)];exact n
 ·rw[bI<|dv e hn];exact e
 ·rw[bI<|dv e hn];exact e
 ·rw[bI<|dv e hn,e];simp
 ·obtain⟨o,es,ep,ho,r⟩:=hm
  exact⟨o,es,ep,k _ o (λz=>(hf _ z).2.1 J) ho,r⟩
 ·by_cases hb:b=T
  ·subst hb
   rw[bp] at e
   cases e
   exact new
  ·rw[bI hb] at e
   refine(I.bK b u e).vd (λc v hc q=>k c v ?_ q) (λc q=>by rw[bI<|dv q hn];exact q) λc xs q=>by rw[bI<|dv q hn];exact q
   rcases hc with z|z
   ·rw[z];exact wO b u e
   ·exact wO c _ z
end
def BS(K:aq)(a:ak):It:=⟨λi H=>∃(xs:ag V)(x:V),SqL K H a xs/\xs[i]? =L x,λi H v H'=>∃T x,v= .ref T/\H T=ah/\H'=aC H T (.tup [.int i,x])/\ ∀xs,SqL K H a xs->xs[i]? =L x,λi H=>∃xs,SqL K H a xs/\xs.length<=i⟩
theorem turn_enum{K:aq}(a e it:ak):tL P w K (.Tuple F8 kk zF) (BS K a) [e,it] e (λi h=>(∃kK,IsEnum h e it (i:af) kK)/\h.IsListIter it a i/\e≠it) where
 mem:=by simp
 obj:=λi h st b hb=>by
  obtain⟨⟨kK,he⟩,⟨o,ho,hc,hd⟩,_⟩:=st;have e':=by simpa using hb
  rcases e' with z|z
  ·rw[z];exact⟨_,he,λv q=>nomatch q⟩
  ·rw[z];exact⟨o,ho,λv q=>by rw[hd] at q;cases q⟩
 keep:=λi h h' st k=>let⟨⟨kK,he⟩,hi,gR⟩:=st;⟨⟨kK,k e (by simp) _ he⟩,hi.at λo q=>k it (by simp) o q,gR⟩
 item:=by
  intro X hP hw hK hc i ai s σ H E I hf st hg;subst hP hw hK;obtain⟨⟨kK,he⟩,AJ,gR⟩:=st;obtain⟨xs,x,hq,hx⟩:=hg;obtain⟨aZ,rv,p,hz⟩:=I.list hq;obtain⟨u,hu,ru⟩:=rv.get hx;have Q5:=d_ he;have hil:it<s.heap.objs.size:=by obtain⟨_,q,_⟩:=AJ;exact d_ q
  refine wpAny_pyNext_enum_item he AJ p.isList (by simpa using hu) gR λh' ho hit' hT nJ hk=>?_;refine⟨_,J,wpAny_letOwnedTupleGo_enum ho λAB he' sb=>?_⟩;have wt:=(sb.2 _<|tq Q5).trans hT;have new:gO X.prog X.w (aC H s.heap.objs.size<|.tup [.int i,x]) AB s.heap.objs.size<|.tup [.int i,x]:=⟨by show 2<=bH;decide,_,.cons ⟨_,J⟩<|.cons ru .nil,_,wt,J,_,J⟩
  have I1:Inv X ai σ (aC H s.heap.objs.size<|.tup _) {s with heap:=AB,toks:=s.toks+1}:=I.V9 (λb ob hb q=>(sb.2 b λz=>hb<|by simp[z]).trans (hk b ob (λz=>hb<|by simp[z]) (λz=>hb<|by simp[z]) q)) hf (dO _) new
  refine⟨.ref s.heap.objs.size,_,I1,J,⟨_,x,J,I.bK.fresh<|dO _,J,λys hy=>by rw[I.GS hy hq];exact hx⟩,⟨⟨u,?_⟩,hit'.at λo q=>(sb.2 it<|dy gR).trans q,gR⟩,λb hb=>?_⟩
  ·have e1:(i+1:af)=i+1:=by omega
   rw[e1];exact he'
  ·have ud:b<s.heap.objs.size:=by
    have e':=by simpa using hb
    rcases e' with z|z
    ·rw[z];exact Q5
    ·rw[z];exact hil
   rw[bI<|jX ud];exact(hf b hb).1
 done:=by
  intro X hP hw hK hc i ai s σ H E I hf st hg;subst hP hw hK;obtain⟨⟨kK,he⟩,AJ,gR⟩:=st;obtain⟨xs,hq,hx⟩:=hg;obtain⟨aZ,rv,p,hz⟩:=I.list hq;obtain⟨f0,f1,f2,f3,f4,f5⟩:=hf it<|by simp
  have hl:=rv.length;exact wpAny_pyNext_enum_end (I.ok.hd hc) he AJ p.isList (by simp;omega) λh' eb=>⟨J,I.turned (λb o hb q=>eb b o hb q) f0 f1 f3 f4 f5⟩
 uW:=λA i s Q E st h=>let⟨⟨_,he⟩,_⟩:=st;wpAny_pyIter_enum he h
def iEnum(K:aq)(ta:TA):TI:=λσ H R=>ta σ H λvs U=>∃a xs,vs=[.ref a]/\SqL K U a xs/\R (BS K a) U
theorem Mm(hg:Gl X "enumerate")(hm:X.mg "enumerate"=ah)(ha:PA X [e] ta)(hs:dq [e] X.env=[(aK,da e X.env)]:=by rfl):PI X (.Tuple F8 kk zF) (.Call (.Name "enumerate" p) [e] [] pos)<|iEnum X.K ta:=by
 intro ai s σ H R I h;refine Call_ (DD I hg hm boot_enumerate<|JV (cj (ha pos ai s σ H _ I h) λus s1⟨vs,U,I1,r1,q1⟩=>?_) hs J);obtain⟨a,xs,ex,hq,q⟩:=q1;subst ex
 cases r1 with
 |cons r rr=>
  cases rr
  cases r
  obtain⟨aZ,rv,p',hz⟩:=I1.list hq;refine call_enumerate_list p'.isList λh' he AJ nJ hk=>wpAny_pyIter_enum he ?_;have I2:=I1.kept (t':=s1.toks) hk;refine⟨s1.heap.objs.size+1,_,_,_,U,J,I2,turn_enum a _ s1.heap.objs.size,⟨⟨.none,he⟩,AJ,Nat.succ_ne_self _⟩,λb hb=>?_,q⟩;have e':=by simpa using hb
  have yE:s1.heap.objs.size<=b:=by
   rcases e' with z|z
   ·rw[z];exact Fi _ _
   ·rw[z];exact dO _
  exact I1.yu yE<|I1.bK.fresh yE
theorem YS:CL "zip"=L (.type "zip"):=by decide+kernel
def BV(K:aq)(a b:ak):It:=⟨λi H=>∃(xs ys:ag V)(x y:V),SqL K H a xs/\SqL K H b ys/\xs[i]? =L x/\ys[i]? =L y,λi H v H'=>∃T x y,v= .ref T/\H T=ah/\H'=aC H T (.tup [x,y])/\(∀xs,SqL K H a xs->xs[i]? =L x)/\ ∀ys,SqL K H b ys->ys[i]? =L y,
                           λi H=>∃xs ys,SqL K H a xs/\SqL K H b ys/\(xs.length<=i\/ys.length<=i)⟩
theorem turn_zip{K:aq}{a b z TI TO i1 i2:ak}(D:ZipApart z TI TO i1 i2 a b):tL P w K (.Tuple F8 kk zF) (BV K a b) [z,TI,TO,i1,i2] z (λi h=>IsZip h z TI TO .none/\IsPair h TI (.ref i1) (.ref i2)/\(∃x y,IsPair h TO x y)/\h.IsListIter i1 a i/\h.IsListIter i2 b i) where
 mem:=by simp
 obj:=λi h st c hc=>by
  obtain⟨hz,qo,⟨x,y,rP⟩,⟨o1,e1,_,d1⟩,o2,e2,_,d2⟩:=st;have e':=by simpa using hc
  rcases e' with q|q|q|q|q
  ·rw[q];exact⟨_,hz,λv q=>nomatch q⟩
  ·rw[q];exact⟨_,qo,λv q=>nomatch q⟩
  ·rw[q];exact⟨_,rP,λv q=>nomatch q⟩
  ·rw[q];exact⟨o1,e1,λv q=>by rw[d1] at q;cases q⟩
  ·rw[q];exact⟨o2,e2,λv q=>by rw[d2] at q;cases q⟩
 keep:=λi h h' st k=>by
  obtain⟨hz,qo,⟨x,y,rP⟩,h1,h2⟩:=st;exact⟨k z (by simp) _ hz,k TI (by simp) _ qo,⟨x,y,k TO (by simp) _ rP⟩,h1.at λo q=>k i1 (by simp) o q,h2.at λo q=>k i2 (by simp) o q⟩
 item:=by
  intro X hP hw hK hc i ai s σ H E I hf st hg;subst hP hw hK;obtain⟨hz,qo,⟨x0,y0,rP⟩,h1,h2⟩:=st;obtain⟨xs,ys,x,y,hqx,hqy,hx,hy⟩:=hg;obtain⟨aZ,rv,p,_⟩:=I.list hqx;obtain⟨mj,rv2,p2,_⟩:=I.list hqy;obtain⟨u,hu,ru⟩:=rv.get hx;obtain⟨u2,hu2,ru2⟩:=rv2.get hy;have Rn:=d_ hz;refine wpAny_pyNext_zip_item D hz qo rP h1 h2 p.isList p2.isList (by simpa using hu) (by simpa using hu2) λh' z' X2 ZQ KW hT nJ hk=>?_;refine⟨_,J,wpAny_letOwnedTupleGo_zip z' λAB z'' sb=>?_⟩;have wt:=(sb.2 _<|tq Rn).trans hT;have new:gO X.prog X.w (aC H s.heap.objs.size<|.tup [x,y]) AB s.heap.objs.size<|.tup [x,y]:=⟨by show 2<=bH;decide,_,.cons ru<|.cons ru2 .nil,_,wt,J,_,J⟩
  have I1:=I.V9 (t':=s.toks) (λc o hb q=>(sb.2 c λq'=>hb<|by simp[q']).trans (hk c o (λq'=>hb<|by simp[q']) (λq'=>hb<|by simp[q']) (λq'=>hb<|by simp[q']) (λq'=>hb<|by simp[q']) q)) hf (dO _) new
  refine⟨.ref s.heap.objs.size,_,I1,J,⟨_,x,y,J,I.bK.fresh<|dO _,J,λl hl=>by rw[I.GS hl hqx];exact hx,λl hl=>by rw[I.GS hl hqy];exact hy⟩,⟨z'',?_,⟨u,u2,?_⟩,?_,?_⟩,λc Gs=>?_⟩
  ·exact(sb.2 _ D.TIz).trans<|hk _ _ D.TIz D.TITO D.TIi1 D.TIi2 qo
  ·exact(sb.2 _ D.TOz).trans X2
  ·exact ZQ.at λo q=>(sb.2 _ D.i1z).trans q
  ·exact KW.at λo q=>(sb.2 _ D.i2z).trans q
  ·have d7:c<s.heap.objs.size:=by
    have e':=by simpa using Gs
    rcases e' with q|q|q|q|q
    ·rw[q];exact Rn
    ·rw[q];exact d_ qo
    ·rw[q];exact d_ rP
    ·rw[q];obtain⟨_,e1,_⟩:=h1;exact d_ e1
    ·rw[q];obtain⟨_,e2,_⟩:=h2;exact d_ e2
   rw[bI<|jX d7];exact(hf c Gs).1
 done:=by
  intro X hP hw hK hc i ai s σ H E I hf st hg;subst hP hw hK;obtain⟨hz,qo,⟨x0,y0,rP⟩,h1,h2⟩:=st;obtain⟨xs,ys,hqx,hqy,hend⟩:=hg;obtain⟨aZ,rv,p,_⟩:=I.list hqx;obtain⟨mj,rv2,p2,_⟩:=I.list hqy;have l1:=rv.length;have l2:=rv2.length;have he:aZ.toArray[i]? =ah\/mj.toArray[i]? =ah:=by
   rcases hend with q|q
   ·exact .inl (by simp;omega)
   ·exact .inr (by simp;omega)
  exact wpAny_pyNext_zip_end (I.ok.hd hc) D hz qo rP h1 h2 p.isList p2.isList he λh' hk=>⟨J,I.turnedL (λc o hb q=>
   hk c o (λq'=>hb<|by simp[q']) (λq'=>hb<|by simp[q']) (λq'=>hb<|by simp[q']) (λq'=>hb<|by simp[q']) q) hf⟩
 uW:=λA i s Q E st h=>wpAny_pyIter_zip st.1 h
def Ro(K:aq)(ta:TA):TI:=λσ H R=>ta σ H λvs U=>∃a b xs ys,vs=[.ref a,.ref b]/\SqL K U a xs/\SqL K U b ys/\R (BV K a b) U
theorem Mo{p pos zF:gP}{F8:ag Expr}{kk:af}(hg:Gl X "zip")(hm:X.mg "zip"=ah)(ha:PA X [e,e2] ta)
 (hs:dq [e,e2] X.env=(aK,da e X.env)::dq [e2] X.env:=by rfl) (fj:(jr pos<|dq [e2] X.env).any (·.1)=aK:=by rfl):
 PI X (.Tuple F8 kk zF) (.Call (.Name "zip" p) [e,e2] [] pos)<|Ro X.K ta:=by
 intro ai s σ H R I h;refine Call_ (DD I hg hm YS<|JV (cj (ha pos ai s σ H _ I h) λus s1⟨vs,U,I1,r1,q1⟩=>?_) hs fj);obtain⟨a,b,xs,ys,ex,hqx,hqy,q⟩:=q1;subst ex
 cases r1 with
 |cons r rr=>
  cases rr with
  |cons r' rr=>
   cases rr
   cases r
   cases r'
   obtain⟨aZ,rv,p1,_⟩:=I1.list hqx;obtain⟨mj,rv2,p2,_⟩:=I1.list hqy;have la:=p1.lt;have lb:=p2.lt;refine call_zip_2 p1.isList p2.isList λh' hz qo rP h1 h2 nJ hk=>wpAny_pyIter_zip hz ?_;have I2:=I1.kept (t':=s1.toks) hk;refine⟨s1.heap.objs.size+4,_,_,_,U,J,I2,turn_zip<|PySem.W.ktu_apart s1.heap.objs.size a b la lb,⟨hz,qo,⟨_,_,rP⟩,h1,h2⟩,λc Gs=>?_,q⟩;have e':=by simpa using Gs
   have yE:s1.heap.objs.size<=c:=by
    rcases e' with z|z|z|z|z
    ·rw[z];exact Fi _ _
    ·rw[z];exact Fi _ _
    ·rw[z];exact Fi _ _
    ·rw[z];exact dO _
    ·rw[z];exact Fi _ _
   exact I1.yu yE<|I1.bK.fresh yE
end L2
section
namespace TL
open PySem PySem.Builtin PySem.Builtin.Str PySem.StrLaws
end TL
end
namespace L2
open PySem PySem.Spec PyProof.Rows
end L2
namespace L2
open PySem PySem.Spec PyProof.Rows
def rX(s:dr)(j:af):dr:=match s with
 | .ClassDef _ _ _ body _ _ _ _ _ _ _=>body.getD j<|.Pass ⟨0,0,0,0⟩
 |_=>.Pass ⟨0,0,0,0⟩
def ku(s:dr):Arguments:=match s with
 | .FunctionDef _ a _ _ _ _ _ _ _ _=>a
 |_=>{posonlyargs:=[],args:=[],vararg:=ah,kwonlyargs:=[],kw_defaults:=[],kwarg:=ah,defaults:=[]}
def ju(s:dr):ag dr:=match s with
 | .FunctionDef _ _ b _ _ _ _ _ _ _=>b
 |_=>[]
def bw(s:dr):lZ:=match s with
 | .FunctionDef _ _ _ _ _ _ sc _ _ _=>sc
 |_=>{kind:=.function,names:=[],isGenerator:=aK,isCoroutine:=aK}
abbrev gZ:og:=λ_ _ _ _ _ _=>eW
abbrev E0:XK:=λ_ _ _=>eW
theorem xc:lV gZ X E0:=λ_ _ _ _ _ _ _ h=>h.elim
structure bz(K:aq)(x di:ax)(st:dr)(f:ak)(fd:cX):Prop where
 ex:∃(oc:aE)(od:aw ak)(kV dR pm:aE)(an:aw ak)(cG ct:aE)(uG:jC<|aw aE),fd=oz x di (ku st) (ju st) (bw st) .none kV dR pm an cG ct/\K.lookup f=L ⟨oc,od,.func fd,uG⟩/\FW K cG di=ao
 kp:jn K (.ref f)=ao
section
variable{P:cN}{w:World}{K:aq}{mg:ax->aw aE}{base:b9}
theorem bz.ok{st:dr}(F:bz K x di st f fd)(S:bE N ps<|bw st)(bG:∀vs H Q E,sp vs H Q E->vs.length=ps.length)
 (yA:∀cG A bC s H vs Q E,fg k (A.deeper<|md di (bw st) s.heap.objs.size f cG)->sp vs H Q E-> ∃t,iX (l_ gZ P w K mg base N di (bw st) f cG A bC s H E).Ha (ju st) t/\t {nx:=λ_ H'=>Q .cE H',rt:=Q} (start N vs) H):aD P w K mg base gZ (k+1) f fd ps sp:=by
 obtain⟨oc,od,kV,dR,pm,an,cG,ct,uG,rfl,lk,me⟩:=F.ex;refine QE lk me S bG λA bC s H vs Q E hr iD=>?_;obtain⟨t,h,q⟩:=yA cG A bC s H vs Q E hr iD;exact⟨t,h.Ha,q⟩
theorem bz.vY{st:dr}(F:bz K x di st f fd)
 (h:∀kV dR pm an cG ct us,us.length=ps.length->rF (oz x di (ku st) (ju st) (bw st) .none kV dR pm an cG ct) ⟨us,[]⟩=pure (ps.zip us)):Binds K fd ps []:=by
 obtain⟨oc,od,kV,dR,pm,an,cG,ct,uG,rfl,lk,me⟩:=F.ex;exact .all<|h kV dR pm an cG ct
theorem KN{st:dr}{kV dR pm cG ct:aE}(l:K.lookup f=L ⟨oc,od,.func<|oz x di (ku st) (ju st) (bw st) .none kV dR pm an cG ct,uG⟩)
 (c:FW K cG di=ao) (k:jn K (.ref f)=ao):bz K x di st f<|oz x di (ku st) (ju st) (bw st) .none kV dR pm an cG ct:=⟨⟨oc,od,kV,dR,pm,an,cG,ct,uG,J,l,c⟩,k⟩
end
theorem lA(hr:fg k A):A.units+1<ow:=vJ (Nat.add_le_add_left (by decide) _) hr.units
section
variable{X:Cx}
theorem O(i:af){pos:gP}(hN:X.N[i]? =L x:=by rfl)(hv:Cz X.env.scope x:=by first|exact Cb J|exact Fo (Cb J)|exact Fo<|Fo J)(hd:(x=="__debug__")=aK:=by decide)
 (me:(x=="__classdict__")=aK:=by decide):PE X (.Name x pos)<|au i:=pe_var hN hv hd me
end
theorem Dt{A B:Prop}(h:B):if aK=ao then A else B:=by
 exact h
theorem pH{A B:Prop}(h:A):if ao=ao then A else B:=by
 exact h
theorem d4{c A B:Prop}[Decidable c](h1:c->A)(h2:¬c->B):if c then A else B:=by
 by_cases h:c
 ·rw[aH h]
  exact h1 h
 ·rw[ay h]
  exact h2 h
def az(H H':Hp):Prop:=∀b o,H b=L o->H' b=L o
theorem az.refl(H:Hp):az H H:=λ_ _ h=>h
theorem az.trans(a:az H U)(b:az U H2):az H H2:=λc o h=>b c o<|a c o h
theorem az.free(e:az H H')(h:H' l=ah):H l=ah:=by
 cases q:H l with
 |none=>rfl
 |some o=>
  rw[e l o q] at h
  cases h
theorem az.seq{K:aq}(e:az H H')(h:SqL K H a xs):SqL K H' a xs:=by
 rcases h with(h|⟨o,h⟩)|h
 ·exact .inl (.inl<|e _ _ h)
 ·exact .inl<|.inr ⟨o,e _ _ h⟩
 ·exact .inr h
theorem az.made(nx:H x=ah)(nd:H dx=ah)(k:∀b o,(aC (aC H dx<|.own x) x<|.ins C dx []) b=L o->b≠x->U b=L o):az H U:=λb o e=>
 k b o (by rw[bI<|dv e nx,bI<|dv e nd];exact e)<|dv e nx
end L2
namespace L2
open PySem PySem.Spec PyProof.Rows
structure Kp(fs:ag ak)(H H':Hp)(h B h':b9):Prop where
 keep:∀b o,h.get? b=L o->H b=ah->b∉fs->B.get? b=L o
 jj:∀b o,h.get? b=L o->H b=ah->b∈fs->(∀vs,o.data≠ .fields vs)-> ∃sl,h'.get? b=L {o with slots:=sl}
 free:∀b o,h.get? b=L o->H b=ah->H' b=ah
 there:∀b o,h.get? b=L o->b∉fs-> ∃o',B.get? b=L o'
 mH:∀b xs,H b=L (.tup xs)->H' b=L (.tup xs)
 lh:∀b o u,H b=L (.iP o u)->H' b=L (.iP o u)
 mF:∀b ps,H b=L (.ve ps)-> ∃more,H' b=L (.ve<|ps++more)
def aO(P:cN)(w:World)(C:ak):og:=λbC H s E e s'=>
 ∃(a t:ak)(H':Hp)(B:b9),e= .ref a/\s'.os=s.os/\sQ s'.gens/\Jq B bC a (.ref C) (.ref t) s'.heap/\eG P w H' B/\Kp (eY bC) H H' s.heap B s'.heap/\E (.ref C) ah H'
theorem aD.gr{K:aq}(F:aD P w K mg base gZ k f fd ps sp):aD P w K mg base CX k f fd ps sp:=⟨F.bG,λA bC s H j4 us vs Q E hr he hb hv hs=>yn (F.run A bC s H j4 us vs Q E hr he hb hv hs) λr s' q=>by
                                                                                            cases r with
                                                                                            |error e=>exact g_ q
                                                                                            |ok fl=>
                                                                                             cases fl with
                                                                                             |ret u=>exact q
                                                                                             |next=>exact q
                                                                                             |brk=>exact q
                                                                                             |cont=>exact q⟩
section
variable{X:Cx}{ai:ag (ak×eN)}{σ:St}{H H':Hp}{s:de}{B h1 h2:b9}
theorem Kp.up(I:Inv X ai σ H s)(hx:X.ex=[])(fF:X.stack=X.env::X.bC)(k:Kp (eY X.stack) H H' s.heap B h1)(sm:h1.UpToSlots h2):Kp (eY X.bC) X.sX H' X.gF.heap B h2:=by
 have nx:∀b,b∉X.ex:=λb z=>by rw[hx] at z;cases z
 have wR:∀b o,X.gF.heap.get? b=L o->b∉X.fs->b∉eY X.stack:=λb o e hb z=>by
  rcases List.mem_cons.mp (I.BC b z) with q|q
  ·exact absurd (gn (d_ e) I.ok.above) (by rw[q];exact mU _)
  ·exact hb q
 have ins:∀b,b∈X.fs->b∈eY X.stack:=λb hb=>by
  rw[fF];unfold eY;rw[zO]
  split
  ·exact hb
  ·exact gz _ hb
 refine⟨λb o e n hb=>?_,λb o e n hb nf=>?_,λb o e n=>?_,λb o e hb=>?_,λb xs e=>k.mH b xs<|I.base.mH b xs e,λb o u e=>k.lh b o u<|I.base.lh b o u e,λb ps e=>?_⟩
 ·exact k.keep b o (I.base.keep b o e n hb<|nx b) (I.base.free b o e n<|nx b)<|wR b o e hb
 ·obtain⟨sl,e1⟩:=I.base.jj b o e n hb<|nx b
  obtain⟨xp,e2⟩:=k.jj b _ e1 (I.base.free b o e n<|nx b) (ins b hb) nf;obtain⟨EB,e3⟩:=sm b _ e2 nf;exact⟨EB,e3⟩
 ·obtain⟨o',e1⟩:=I.base.there b o e<|nx b
  exact k.free b o' e1 (I.base.free b o e n<|nx b)
 ·obtain⟨o',e1⟩:=I.base.there b o e<|nx b
  exact k.there b o' e1<|wR b o e hb
 ·obtain⟨m1,e1⟩:=I.base.mF b ps e
  obtain⟨m2,e2⟩:=k.mF b _ e1;exact⟨m1++m2,by rw[e2,Jj]⟩
def LU(X:Cx)(h:b9):b9:=z5 h<|eY X.stack
theorem LV(I:Inv X ai σ H s)(e:s.heap.get? b=L o)(hb:b∉eY X.stack):(LU X s.heap).get? b=L o:=Fv _ e hb
theorem noFr_hok(I:Inv X ai σ H s):eG X.prog X.w H<|LU X s.heap:=λa o e=>
 (I.bK a o e).vd (λb u hb q=>LV I q λz=>by
   have n:=I.NQ b z;rcases hb with r|r
   ·rw[r,e] at n;cases n
   ·rw[r] at n;cases n) (λ_ q=>q) λ_ _ q=>q
theorem Kp.start(I:Inv X ai σ H s)(k:∀b o,s.heap.get? b=L o->h1.get? b=L o):Kp (eY X.stack) H H s.heap (LU X s.heap) h1:=⟨λb o e _ hb=>LV I e hb,λb o e _ _ _=>⟨o.slots,k b o e⟩,λ_ _ _ n=>n,λb o e hb=>⟨o,LV I e hb⟩,λ_ _ e=>e,λ_ _ _ e=>e,λb ps e=>⟨#[],by rw[e];simp⟩⟩
end
section
variable{P:cN}{w:World}{K:aq}{mg:ax->aw aE}{base:b9}{N:ag ax}{di:ax}{aT:lZ}{f C:ak}{cd:aE}{A:oa}{bC:ag kj}{s:de}{H:Hp}{E:XK}
theorem aA:lV (aO P w C) (l_ (aO P w C) P w K mg base N di aT f cd A bC s H E) E:=by
 intro ai σ U s1 e s2 I h;obtain⟨a,t,H',B,rfl,ho,hb,fl,hk,kp,q⟩:=h;exact wpAny_leaves_onW I.ok.frames J fl λh' x1 x2=>⟨a,t,H',B,J,ho.trans I.os,hb,x1,hk,Kp.up I J J kp x2,q⟩
def Ph(C:ak)(X:Cx)(E:XK):Prop:=∀ai(σ:St)H s h' e vs,Inv X ai σ H s->Heap.MadeExcOf s.heap h' e (.ref C) vs->E (.ref C) ah H->X.xe (.ref e) {s with heap:=h'}
theorem HH:Ph C (l_ (aO P w C) P w K mg base N di aT f cd A bC s H E) E:=by
 intro ai σ U s1 h1 e vs I hm q;have hin:∀env∈(l_ _ P w K mg base N di aT f cd A bC s H E).stack,∀b,env.frame=L b->b∈eY (l_ (aO P w C) P w K mg base N di aT f cd A bC s H E).stack:=λenv he b hb=>List.mem_filterMap.mpr ⟨env,he,hb⟩;refine wpAny_leaves_madeW I.ok.frames J (λb o z=>JY _ z) (PySem.W.funFrames_hide I.stack hin) hm λh' t x1 _ _ x4=>?_;exact⟨e,t,U,_,J,I.os,I.eC,x1,noFr_hok I,Kp.up I J J (Kp.start I hm.keeps) x4,q⟩
theorem mr:JT (bX P w) (A.deeper<|md di aT s.heap.objs.size f cd) (md di aT s.heap.objs.size f cd) (l_ (aO P w C) P w K mg base N di aT f cd A bC s H E).xe:=PassesOwn.leaving
theorem bz.pQ{st:dr}(F:bz K x di st f fd)(S:bE N ps<|bw st)(bG:∀vs H Q E,sp vs H Q E->vs.length=ps.length)
 (yA:∀cG A bC s H vs Q E,fg k (A.deeper<|md di (bw st) s.heap.objs.size f cG)->sp vs H Q E-> ∃t,iX (l_ (aO P w C) P w K mg base N di (bw st) f cG A bC s H E) (ju st) t/\t {nx:=λ_ H'=>Q .cE H',rt:=Q} (start N vs) H):aD P w K mg base (aO P w C) (k+1) f fd ps sp:=by
 obtain⟨oc,od,kV,dR,pm,an,cG,ct,uG,rfl,lk,me⟩:=F.ex;exact QE lk me S bG λA bC s H vs Q E hr iD=>yA cG A bC s H vs Q E hr iD
end
structure xF(K:aq)(C:ak):Prop where
 is:XM K C [.type "Exception",.type "BaseException",.type "object"] "Exception.__new__"=ao
theorem xF.obj{K:aq}(x:xF K C)(k:K.In h):∃tl N nm q bs hdct sn sub ab col dd k0 k1 k2 k3 k5,∃mN,h.get? C=L (excClassObj nm q C N bs tl hdct sn sub ab col dd k0 k1 k2 k3 k5 "Exception.__new__")/\h.Ns N mN/\mN "__init__"=ah/\OwnTail h [.type "Exception",.type "BaseException",.type "object"] tl:=by
 have q:=x.is;unfold XM at q
 split at q
 ·next dd cd sl ho=>
  split at q
  ·next C' tl k0 k1 k2 k3 n k5 e1 e2=>
   rw[eR,eR,eR,eR,eR] at q;obtain⟨⟨⟨⟨⟨q1,q2⟩,q3⟩,q4⟩,q5⟩,q6⟩:=q;have z1:=eq_of_beq q1;have z2:=eq_of_beq q2;have z3:=by simpa using q3
   have z6:=eq_of_beq q6;subst z1 z2
   cases cd
   subst e1 z3
   cases sl
   subst e2;exact⟨tl,_,_,_,_,_,_,_,_,_,dd,k0,k1,k2,k3,k5,_,k _ _ ho,.of_isNs<|PySem.W.isNs_of_in k q5,PySem.W.nsMap_none_of_in k q5 z6,PySem.W.tail_of_in k q4⟩
  ·cases q
 ·cases q
section
variable{X:Cx}{C:ak}{E:XK}{x msg:ax}{np rJ pos p1:gP}{j:af}
theorem HE(hc:X.j6=ao)(ex:xF X.K C)(hr:Ph C X E)(hg:Gl X x)(hm:X.mg x=L (.ref C))(hd:(x=="__debug__")=aK:=by decide):PS X (.Raise (L<|.Call (.Name x np) [.Constant (.str msg) j p1] [] rJ) ah pos) λ_ _ H=>E (.ref C) ah H:=by
 intro ai s σ H D I h;obtain⟨tl,N,nm,q,bs,hdct,sn,sub,ab,col,dd,k0,k1,k2,k3,k5,mN,hC,hN,hni,T⟩:=ex.obj I.iE;refine wpAny_Raise_call_subT (nm:=nm) (q:=q) (N:=N) (bs:=bs) (hdct:=hdct) (sn:=sn) (sub:=sub) (ab:=ab) (col:=col) (dd:=dd) (k0:=k0) (k1:=k1) (k2:=k2) (k3:=k3) (k5:=k5)
  PySem.F.excBase_Exception (T.hasType PySem.F.excBase_Exception.hasBase) (I.ok.hd hc) J hni<|yN I hg hm ⟨J,?_⟩ hd
 refine WD ?_;show b_ _ _ (spliced<|(aK,da _ X.env)::jr rJ _) _ _ s;exact WE (Calls.Constant_str<|WG ⟨J,by show 1<=bH;decide,hC,hN,T,λh' e hmade=>hr ai σ H _ h' e _ (I.lR _) hmade h⟩)
end
section
variable{X:Cx}{C:ak}{x:ax}{np AO pos:gP}{body:ag dr}{b0:dr}{BD:ag dr}
abbrev Cx.Tz(X:Cx)(pl:ag<|ak×eN):Cx:={X with pn:=X.pn++pl}
def Xf(X:Cx)(C:ak)(Sg:St->Prop)(Hc:Hp->Prop)(pl:ag<|ak×eN)(e:aE)(s2:de):Prop:=∃(ai:ag<|ak×eN)(σ:St)(H H':Hp)(s s1:de)(B h4:b9)(a t:ak),e= .ref a/\s2={s1 with heap:=h4}/\Inv (X.Tz pl) ai σ H s/\Sg σ/\s1.os=s.os/\sQ s1.gens/\Heap.HeldW B (X.env::X.bC) a (.ref C) (.ref t) X.env.locals h4/\s1.heap.UpToSlots h4/\eG X.prog X.w H' B/\Kp (eY X.stack) H H' s.heap B s1.heap/\Hc H'
abbrev Cx.vo(X:Cx)(C:ak)(Sg:St->Prop)(Hc:Hp->Prop)(pl:ag<|ak×eN):Cx:={X with
 pn:=X.pn++pl
 xe:=λe s'=>b_ (bX X.prog X.w) X.A (G_ e X.env) (λ_ s2=>Xf X C Sg Hc pl e s2) (λ_ _=>eW) s'}
abbrev Cx.v_(X:Cx)(pl:ag<|ak×eN)(e:aE):Cx:={X with A:=X.A.mark<|L e,j6:=aK,pn:=X.pn++pl,xe:=λ_ _=>eW}
theorem Cx.Ok.at_{X Y:Cx}(ok:X.Ok)(h1:Y.K=X.K)(h2:Y.mg=X.mg)(h3:Y.base=X.base)(h4:Y.env=X.env)(h5:Y.gF=X.gF)(h6:Y.sX=X.sX)(h7:Y.bC=X.bC)(h8:Y.stack=X.stack)(h9:Y.ex=X.ex)(wo:Y.fn=X.fn)
 (tY:Y.A.frames=X.A.frames) (ZR:Y.j6=ao->Y.A.handled=ah):Y.Ok:=by
 obtain⟨a1,a2,a3,a4,a5,a6,a7,a8,a9,i_,mY,mZ,m6,m7,m8,m9,m_,nk⟩:=ok;obtain⟨prog,w,K,mg,base,A,N,s0,H0,env,bC,stack,ex,fn,j6,pn,xe⟩:=X;subst h1 h2 h3 h4 h5 h6 h7 h8 h9 wo;exact⟨a1,a2,a3,a4,a5,a6,a7,a8,ZR,tY.trans i_,mY,mZ,m6,m7,m8,m9,m_,nk⟩
theorem Tr{σ:St}(I:Inv (X.vo C Sg Hc pl) ai σ H s)(g:Sg σ)(h:aO X.prog X.w C X.stack H s (λ_ _ H'=>Hc H') e s')(fF:X.stack=X.env::X.bC:=by rfl)(hf:X.env.frame=L X.env.locals:=by rfl):(X.vo C Sg Hc pl).xe e s':=by
 obtain⟨a,t,H',B,rfl,os,eC,fl,bK,kp,hc⟩:=h;have C8:Jq B (X.env::X.bC) a (.ref C) (.ref t) s'.heap:=by rw[<-fF];exact fl
 refine wpAny_looks_onW (show X.A.frames=L _ by rw[<-fF];exact I.ok.frames) hf C8 λh4 Di gU=>?_;exact⟨ai,σ,H,H',s,s',B,h4,a,t,J,J,⟨I.ok.at_ J J J J J J J J J J J I.ok.hd,I.os,I.eC,I.base,I.h_,I.cell,I.free,I.jL,I.jg,I.bK,I.bG⟩,g,os,eC,Di,gU,bK,kp,hc⟩
theorem D'{Hc:Hp->Prop}{pl:ag (ak×eN)}(fF:X.stack=X.env::X.bC:=by rfl)(hf:X.env.frame=L X.env.locals:=by rfl):lV (aO X.prog X.w C) (X.vo C (λ_=>i9) Hc pl) λ_ _ H'=>Hc H':=λ_ _ _ _ _ _ I h=>Tr I cg h fF hf
theorem ownTry:JT (bX X.prog X.w) X.A X.env (X.vo C Sg Hc pl).xe:=PassesOwn.looking
theorem Inv.landed{σ:St}{s s':de}(I:Inv (X.Tz pl) ai σ H s)(hx:X.ex=[])(fF:X.stack=X.env::X.bC)(hf:X.env.frame=L X.env.locals)
 (os:s'.os=s.os) (eC:sQ s'.gens) (bK:eG X.prog X.w H' B) (kp:Kp (eY X.stack) H H' s.heap B s'.heap) (sm:s'.heap.UpToSlots h2) (hB:B.StaysIn h2):Inv (X.v_ pl e) [] σ H' {s' with heap:=h2}:=by
 have up:=Kp.up I hx fF kp sm;have inL:X.env.locals∈eY X.stack:=by
  rw[fF];unfold eY;rw[zO,hf];exact ik
 have any:∀b o,s.heap.get? b=L o->H b=ah->_-> ∃sl,h2.get? b=L {o with slots:=sl}:=λb o e n nf=>by
  by_cases hb:b∈eY X.stack
  ·obtain⟨sl,e1⟩:=kp.jj b o e n hb nf
   obtain⟨EB,e3⟩:=sm b _ e1 nf;exact⟨EB,e3⟩
  ·exact⟨o.slots,hB b o<|kp.keep b o e n hb⟩
 have CV:∀y c,X.env.cells.lookup y=L c-> ∀v,s.heap.IsCell c v->h2.IsCell c v:=λy c e v⟨o,ho,hd⟩=>by
  obtain⟨sl,q⟩:=any c o ho (I.jL y c e) λvs z=>by rw[hd] at z;cases z
  exact⟨_,q,hd⟩
 obtain⟨m,⟨oL,es,ep,hoL,hdL,rL⟩,hl⟩:=I.h_;obtain⟨slL,eL⟩:=any X.env.locals oL hoL I.free λvs z=>by rw[hdL] at z;cases z
 refine⟨I.ok.at_ J J J J J J J J J J J (λz=>nomatch z),os.trans I.os,eC,?_,⟨m,⟨_,es,ep,eL,hdL,rL⟩,λi y v h1 KW h3=>?_⟩,λy c e=>?_,?_,λy c e=>?_,λp hp=>?_,bK.kept hB,I.bG⟩
 ·have SA:∀b,b∉(X.v_ pl e).ex:=λb z=>by
   rw[hx] at z;cases z
  refine⟨λb o q n hb _=>hB b o<|up.keep b o q n hb,λb o q n hb _=>?_,λb o q n _=>up.free b o q n,λb o q _=>?_,up.mH,up.lh,up.mF⟩
  ·obtain⟨_,o',nI,nf⟩:=I.ok.lq.mem hb
   have zz:=q;rw[show X.gF.heap.get? b=L o' from nI] at zz
   cases zz
   exact up.jj b _ q n hb nf
  ·by_cases hb:b∈X.fs
   ·obtain⟨_,o',nI,nf⟩:=I.ok.lq.mem hb
    have zz:=q;rw[show X.gF.heap.get? b=L o' from nI] at zz
    cases zz
    obtain⟨sl,z⟩:=up.jj b _ q (I.ok.tW b hb) hb nf;exact⟨_,z⟩
   ·obtain⟨o',z⟩:=up.there b o q hb
    exact⟨o',hB b o' z⟩
 ·obtain⟨u,r,l⟩:=hl i y v h1 KW h3
  refine⟨u,r,?_⟩;rcases l with l|⟨kk,c,e1,z⟩
  ·exact .inl l
  ·exact .inr ⟨kk,c,e1,CV y c e1 _ z⟩
 ·obtain⟨v,z⟩:=I.cell y c e
  exact⟨v,CV y c e v z⟩
 ·exact kp.free _ oL hoL I.free
 ·obtain⟨v,o,ho,_⟩:=I.cell y c e
  exact kp.free c o ho<|I.jL y c e
 ·have Dm:p∈X.pn++pl:=by simpa using hp
  obtain⟨e1,n1,ne,nf,d⟩:=I.jg p<|OC _ Dm;have hb:p.1∉eY X.stack:=λz=>by
   rcases List.mem_cons.mp (I.BC p.1 z) with q|q
   ·exact ne q
   ·exact nf q
  exact⟨hB p.1 p.2<|kp.keep p.1 p.2 e1 n1 hb,kp.free p.1 p.2 e1 n1,ne,nf,d⟩
theorem V6{σ:St}(hx:X.ex=[])(fF:X.stack=X.env::X.bC)(hf:X.env.frame=L X.env.locals)(ex:xF X.K C)(hg:Gl X x)(hm:X.mg x=L (.ref C))
 (hb:iX (X.vo C Sg Hc ai) body tb) (hs:∀pl e,iX (X.v_ pl e) (b0::BD) ts) (hd:(x=="__debug__")=aK) (I:Inv X ai σ H s) (h1:tb D σ H) (h2:∀aS H',Sg aS->Hc H'->aS.length=σ.length->ts D aS H'):
 b_ (bX X.prog X.w) X.A (exec (.Try body [.ExceptHandler (L<|.Name x np) ah (b0::BD) AO] [] [] pos) X.env) (SP X ai D) X.xe s:=by
 have I1:Inv (X.vo C Sg Hc ai) [] σ H s:=⟨I.ok.at_ J J J J J J J J J J J I.ok.hd,I.os,I.eC,I.base,I.h_,I.cell,I.free,I.jL,λp hp=>I.jg p<|by simpa using hp,I.bK,I.bG⟩;have FK:∀{aS:St}{H':Hp}{s':de},Inv (X.vo C Sg Hc ai) [] aS H' s'->Inv X ai aS H' s':=λcz=>
  ⟨I.ok,cz.os,cz.eC,cz.base,cz.h_,cz.cell,cz.free,cz.jL,λp hp=>cz.jg p<|by simpa using hp,cz.bK,cz.bG⟩
 refine wpAny_Try_except (kO (hb [] s σ H D I1 h1) (λf s1 q=>?_) λe s1 q=>?_)
 ·cases f with
  |next=>
   obtain⟨aS,H',cz,z⟩:=q;exact Jf ⟨aS,H',FK cz,z⟩
  |brk=>obtain⟨aS,H',cz,z⟩:=q;exact⟨aS,H',FK cz,z⟩
  |cont=>obtain⟨aS,H',cz,z⟩:=q;exact⟨aS,H',FK cz,z⟩
  |ret u=>obtain⟨v,aS,H',cz,r,z⟩:=q;exact⟨v,aS,H',FK cz,r,z⟩
 ·refine kO q (λ_ sq z=>?_) λ_ _ z=>z.elim
  obtain⟨pins2,c9,H2,H',s2,s1,B,h4,a,t,rfl,rfl,cz,sg,os,eC,Di,gU,bK,kp,hc⟩:=z;refine wpAny_landsW Di λh5 KD lP=>?_;have J5:Inv (X.v_ ai<|.ref a) [] c9 H' {s1 with heap:=h5}:=Inv.landed cz hx fF hf os eC bK kp (gU.trans lP) KD.1;refine wpAny_handleBy_cons (codeAny_handlers_test<|yN J5 hg hm ?_ hd) (by intro z;cases z);obtain⟨tl,N,nm,q,bs,hdct,sn,sub,ab,col,dd,k0,k1,k2,k3,k5,mN,hC,hN,hni,T⟩:=ex.obj J5.iE;obtain⟨ob,hob,hobc⟩:=KD.there;refine wpAny_excMatches_sub_self hC hob hobc (T.hasType PySem.F.excBase_Exception.hasBase)<|codeAny_handlers_suite ?_;refine lands_againW KD λh6 QD sm6=>?_;have J6:Inv (X.v_ ai<|.ref a) [] c9 H' {s1 with heap:=h6}:=Inv.landed cz hx fF hf os eC bK kp ((gU.trans lP).trans sm6) QD.1;have bG:=cz.bG.trans I.bG.symm;refine kO (hs ai _ [] _ c9 H' D J6<|h2 c9 H' sg hc bG) (λf s3 z=>?_) λ_ _ z=>g_ z;have FL:∀{aS:St}{H':Hp}{s':de},Inv (X.v_ ai<|.ref a) [] aS H' s'->Inv X ai aS H' s':=λcz=>
   ⟨I.ok,cz.os,cz.eC,cz.base,cz.h_,cz.cell,cz.free,cz.jL,λp hp=>cz.jg p<|by simpa using hp,cz.bK,cz.bG⟩
  cases f with
  |next=>obtain⟨aS,H',cz,y⟩:=z;exact⟨aS,H',FL cz,y⟩
  |brk=>obtain⟨aS,H',cz,y⟩:=z;exact⟨aS,H',FL cz,y⟩
  |cont=>obtain⟨aS,H',cz,y⟩:=z;exact⟨aS,H',FL cz,y⟩
  |ret u=>obtain⟨v,aS,H',cz,r,y⟩:=z;exact⟨v,aS,H',FL cz,r,y⟩
def tTry(tb:(Hp->Prop)->TS)(ts:TS):TS:=λD σ H=>∃Hc,tb Hc D σ H/\ ∀aS H',Hc H'->aS.length=σ.length->ts D aS H'
theorem Ef(hx:X.ex=[])(fF:X.stack=X.env::X.bC)(hf:X.env.frame=L X.env.locals)(ex:xF X.K C)(hg:Gl X x)(hm:X.mg x=L (.ref C))
 (hb:∀Hc pl,iX (X.vo C (λ_=>i9) Hc pl) body<|tb Hc) (hs:∀pl e,iX (X.v_ pl e) (b0::BD) ts) (hd:(x=="__debug__")=aK:=by decide):
 PS X (.Try body [.ExceptHandler (L<|.Name x np) ah (b0::BD) AO] [] [] pos)<|tTry tb ts:=λai _ _ _ _ I⟨Hc,h1,h2⟩=>V6 hx fF hf ex hg hm (hb Hc ai) hs hd I h1 λaS H' _=>h2 aS H'
def tTryAt(tb:St->(Hp->Prop)->TS)(ts:TS):TS:=λD σ H=>∃Hc,tb σ Hc D σ H/\ ∀H',Hc H'->ts D σ H'
theorem ps_tryAt(hx:X.ex=[])(fF:X.stack=X.env::X.bC)(hf:X.env.frame=L X.env.locals)(ex:xF X.K C)(hg:Gl X x)(hm:X.mg x=L (.ref C))
 (hb:∀xC Hc pl,iX (X.vo C (λσ=>σ=xC) Hc pl) body<|tb xC Hc) (hs:∀pl e,iX (X.v_ pl e) (b0::BD) ts) (hd:(x=="__debug__")=aK:=by decide):
 PS X (.Try body [.ExceptHandler (L<|.Name x np) ah (b0::BD) AO] [] [] pos)<|tTryAt tb ts:=λai _ σ _ _ I⟨Hc,h1,h2⟩=>V6 hx fF hf ex hg hm (hb σ Hc ai) hs hd I h1 λaS H' e hc _=>e▸h2 H' hc
theorem pe_methAt{kY:gP}{xC:St}{pl:Sem c_}(he:PE X o ta)(c:jV X.K C)(hm:o_ X.K C m f)(F:aD X.prog X.w X.K X.mg X.base CX k f fd ps sp)(hr:fg k X.A)(hb:Binds X.K fd ps [])
 (hx:∀ai H s e s',Inv X ai xC H s->CX X.stack H s E e s'->X.xe e s') (ha:PA X (e::es) t) (fF:dq (e::es) X.env=(aK,da e X.env)::dq es X.env:=by rfl) (fj:(jr pos<|dq es X.env).any (·.1)=aK:=by rfl)
 (ht:da (.Call (.Attribute o m kY) (e::es) [] pos) X.env=(do
   let ov<-da o X.env
   IJ kY.atName
   let(f,first)<-AM [ov] (Gk ov m pl)
   FQ pos f first (jr pos<|dq (e::es) X.env) (CH pos<|Dv [] X.env)):=by rfl):
 PE X (.Call (.Attribute o m kY) (e::es) [] pos) λσ H Q=>σ=xC/\eu C m sp [] E ta t σ H Q:=by
 intro ai s σ H Q I ⟨e0,h⟩;subst e0;refine Pb (cj (he ai s σ H _ I h) λu s1⟨x,U,I1,rx,a,dx,fs,ex,ea,l,q⟩=>?_) ht;subst ex;obtain rfl:u=j3 a:=rx;refine KS I1 ea c hm l ?_;refine zY I.ok.gX.rZ hm.kp (cj (ha pos ai s1 σ U _ I1 q) λus s2⟨vs,H2,I2,r,q2⟩=>⟨I2.iE,?_⟩) fF fj;have r2:cI (.ref a::vs++[]) _:=cI.append (.cons J r) .nil;have hl:(.ref a::us++[]:ag aE).length=ps.length:=by rw[<-r2.length];exact F.bG _ _ _ _ q2
 refine N7 (yn (F.run X.A X.stack s2 H2 ⟨.ref a::us,[]⟩ _ _ Q E hr I2.F' (hb s2 _ I2.iE hl) r2 q2) λr s' hq=>?_)
 cases r with
 |error e=>exact hx ai H2 s2 e s' I2 hq
 |ok fl=>
  cases fl with
  |ret u=>exact I2.FE hq
  |next=>exact g_ hq
  |brk=>exact g_ hq
  |cont=>exact g_ hq
end
end L2
namespace L2
open PySem PySem.Spec PyProof.Rows
theorem FN(h:i.natAbs<2^n):kh i<=n:=by
 unfold kh
 split
 ·exact eI _
 ·rename_i z
  have z0:i.natAbs≠0:=λq=>z (by simp;omega);exact(vI z0).mpr h
section
variable{X:Cx}{o e:Expr}{es:ag Expr}{to tf:TE}{t:TA}{pos kY p:gP}{x:ax}
theorem lH:fR X (nr .LShift) (rI (λi j=>0<=j/\j<=100000/\i.natAbs<2^250) λi j=>.int<|i*2^j.toNat):=w_ λ_ _ _ _ _ _ _ hc q=>lshift_int hc.1 (by
 have:=FN hc.2.2
 omega) q
theorem op_mulB:fR X (nr .Mult) (rI (λi j=>i.natAbs<2^250/\j.natAbs<2^250) λi j=>.int<|i*j):=w_ λ_ _ _ _ _ _ _ hc q=>mul_int q (IntMulOk.of_bits (dJ (FN hc.1) dc)<|dJ (FN hc.2) dc)
theorem noPylong_400(h:j.natAbs<2^250):Builtin.divisionGoesByPylong i j=aK:=by
 refine PyProof.noPylong_of_log2 ?_;by_cases z:j.natAbs=0
 ·rw[z];decide
 ·have:=(vI z).mpr h
  omega
theorem Hz:fR X (nr .FloorDiv) (rI (λ_ j=>0<j/\j.natAbs<2^250) λi j=>.int<|i/j):=w_ λi j _ _ _ _ _ hc q=>by
 exact floordiv_int om (by rw[Jw i om];exact q) (.inl<|noPylong_400 hc.2)
theorem op_and1:fR X (nr .BitAnd) (λx y H Q=>∃i,x= .int i/\y= .int 1/\Q (.int<|i%2) H):=by
 intro ai s σ H x y v u Q I rx ry h;obtain⟨i,rfl,rfl,q⟩:=h;refine op_and ai s σ H _ _ v u Q I rx ry ⟨i,1,J,J,?_⟩;show Q (.int _) H;rw[bitAnd_m1];exact q
theorem iQ:fR X (nz .Eq) (gy λi j=>.bl<|decide (i=j)):=D6 λ_ _ _ _ _ _ _ q=>eq_int (by rw[Bool.beq_eq_decide_eq];exact q)
theorem To:fR X (nz .NotEq) (λx y H Q=>∃a b,x= .bl a/\y= .bl b/\Q (.bl<|a !=b) H):=by
 intro ai s σ H x y v u Q I rx ry h;obtain⟨a,b,rfl,rfl,q⟩:=h;refine op_ne ai s σ H _ _ v u Q I rx ry ⟨J,?_⟩;have e:(!decide (V.bl a=V.bl b))=(a !=b):=by cases a<;>cases b<;>rfl
 rw[e];exact q
def tBitLen(to:TE):TE:=λσ H Q=>to σ H λx U=>∃i,x= .int i/\Q (.int<|kh i) U
theorem Ea(ho:PE X o to)(K':FJ o "bit_length" X.env (da o X.env)=da o X.env:=by rfl)(Lf:(kY.endLine==pos.line)=ao:=by rfl):PE X (.Call (.Attribute o "bit_length" kY) [] [] pos)<|tBitLen to:=by
 intro ai s σ H Q I h;refine PySem.Call_method0 K' Lf (cj (ho ai s σ H _ I h) λv s1⟨y,U,I1,r1,q1⟩=>?_);obtain⟨i,rfl,q⟩:=q1;obtain⟨t,rfl⟩:=_root_.id r1;exact⟨"int",_,F.plainAttrs_int,slot_int_bit_length,type_int_bit_length,typeIs_int _ _ _,(λ_ z=>nomatch z),WC J (PySem.evalArgs_none<|call_int_bit_length ⟨.int _,U,I1.lR _,⟨_,J⟩,q⟩)⟩
def NW(f:ak)(sp:Sp)(E:XK)(tf:TE)(t:TA):TE:=λσ H Q=>tf σ H λv U=>v= .ref f/\t σ U λvs H2=>sp (vs++[]) H2 Q E
theorem ze(hf:PE X fe tf)(F:aD X.prog X.w X.K X.mg X.base CX k f fd ps sp)(hr:fg k X.A)(hk:jn X.K (.ref f)=ao)(hb:Binds X.K fd ps [])(hx:lV CX X E)
 (ha:PA X (e::es) t) (he:dq (e::es) X.env=(aK,da e X.env)::dq es X.env:=by rfl) (fj:(jr pos<|dq es X.env).any (·.1)=aK:=by rfl)
 (hc:da (.Call fe (e::es) [] pos) X.env=(do FQ pos (<-da fe X.env) [] (jr pos<|dq (e::es) X.env) (CH pos<|Dv [] X.env)):=by rfl):PE X (.Call fe (e::es) [] pos)<|NW f sp E tf t:=by
 intro ai s σ H Q I h;refine Call_ (cj (hf ai s σ H _ I h) λu s1⟨v,U,I1,r1,ev,q1⟩=>?_) hc;subst ev;obtain rfl:u=j3 f:=r1;refine zY I1.ok.gX.rZ hk (cj (ha pos ai s1 σ U _ I1 q1) λus s2⟨vs,H2,I2,r,q⟩=>⟨I2.iE,?_⟩) he fj;exact Bp F hr hb .nil hx I2 r q
end
def GI:V->c_
 | .cE=>ao
 |_=>aK
def yp:aE->c_
 | .none=>ao
 |_=>aK
section
variable{X:Cx}
theorem Rq{σ:St}(I:Inv X ai σ H s)(hu:A.units<ow):∀{xs:ag V}{us:ag aE},cI xs us->(∀y∈xs,y= .cE\/ ∃a ys,y= .ref a/\cD X.K H a ys)->(∀u∈us,X0 A s u .none<|yp u)/\us.any yp=xs.any GI
 |_,_,.nil,_=>⟨(λ_ h=>nomatch h),J⟩
 |y::xs,u::us,.cons r t,f=>by
  obtain⟨i1,i2⟩:=Rq I hu t λz hz=>f z<|gz _ hz;have h1:X0 A s u .none (yp u)/\yp u=GI y:=by
   rcases f y ik with rfl|⟨a,ys,rfl,hq⟩
   ·cases r
    exact⟨SeqAt.EqAt.same _,J⟩
   ·cases r
    obtain⟨aZ,_,pl,_⟩:=I.tuple hq;exact⟨SeqAt.EqAt.tuple_none pl hu,J⟩
  refine⟨λz hz=>?_,by rw[xH,xH,h1.2,i2]⟩;rcases List.mem_cons.mp hz with rfl|hz
  ·exact h1.1
  ·exact i1 z hz
def rInN(K:aq):R2:=λx y H Q=>∃p xs,x= .cE/\y= .ref p/\SqL K H p xs/\(∀y∈xs,y= .cE\/ ∃a ys,y= .ref a/\cD K H a ys)/\Q (.bl<|xs.any GI) H
theorem op_in_none(hu:X.A.units+64<ow):fR X (nz .In)<|rInN X.K:=by
 intro ai s σ H x y v u Q I rx ry h;obtain⟨p,xs,rfl,rfl,hq,hf,q⟩:=h
 cases rx
 cases ry
 obtain⟨aZ,r,pl,hz⟩:=I.list hq;obtain⟨h1,h2⟩:=Rq (A:=X.A.in1) I (by show X.A.units+1<ow;omega) r hf;refine SeqAt.in_listAt yp pl.isList (λw hw=>?_) ⟨.bl _,H,I,J,?_⟩
 ·exact h1 w<|by simpa using hw
 ·rw[show aZ.toArray.any yp=aZ.any yp by simp,h2]
  exact q
end
end L2
namespace L2
open PySem PySem.Spec PyProof.Rows
theorem az.tup{K:aq}(e:az H H')(h:cD K H a xs):cD K H' a xs:=by
 rcases h with(h|⟨o,h⟩)|h
 ·exact .inl (.inl<|e _ _ h)
 ·exact .inl<|.inr ⟨o,e _ _ h⟩
 ·exact .inr h
theorem az.new(h:H p=ah):az H<|aC H p o:=λb u e=>by
 rw[bI<|dv e h];exact e
abbrev bO(α:Type):=Hp->V->α->Prop
def cV(R:bO α):Prop:=∀H H' v x,az H H'->R H v x->R H' v x
structure bW(C:ak)(R:bO α)(H:Hp)(r:aw α)(Q:VK)(E:XK):Prop where
 ok:∀H' v y,az H H'->r=L y->R H' v y->Q v H'
 no:∀H',az H H'->r=ah->E (.ref C) ah H'
section
variable{α β:Type}{C:ak}{R:bO α}{R':bO β}{H U:Hp}{r:aw α}{Q:VK}{E:XK}{σ:St}
theorem bW.at_(k:bW C R H r Q E)(s:az H U):bW C R U r Q E:=⟨λH' v y s' e h=>k.ok H' v y (s.trans s') e h,λH' s' e=>k.no H' (s.trans s') e⟩
theorem bW.eq(k:bW C R H r Q E)(e:r=r'):bW C R H r' Q E:=e▸k
def NT(C:ak)(E:XK)(R:bO α)(r:aw α)(σ:St)(H:Hp)(te:TE):Prop:=∀U Q,az H U->bW C R U r Q E->te σ U Q
theorem NT.at_(h:NT C E R r σ H te)(s:az H U):NT C E R r σ U te:=λH2 Q s2 k=>h H2 Q (s.trans s2) k
theorem NT.eq(h:NT C E R r σ H te)(e:r=r'):NT C E R r' σ H te:=e▸h
theorem bW.by(k:bW C R H r Q E)(h:NT C E R r σ H te):te σ H Q:=h H Q (az.refl H) k
theorem bW.bind(k:bW C R H (rb.bind f) Q E)(h:NT C E R' rb σ H te)
 (hq:∀y v U,az H U->rb=L y->R' U v y->bW C R U (f y) Q E->Q' v U):te σ H Q':=by
 refine h H Q' (az.refl H) ⟨λH' v y s e q=>hq y v H' s e q ?_,λH' s e=>?_⟩
 ·have k':=k.at_ s
  rw[e] at k';exact k'
 ·refine k.no H' s ?_
  rw[e];rfl
theorem NT.go(h:NT C E R' (L y) σ H te)(hq:∀v U,az H U->R' U v y->Q' v U):te σ H Q':=h H Q' (az.refl H) ⟨λH' v z s e q=>by cases e;exact hq v H' s q,λ_ _ e=>nomatch e⟩
theorem aj(hi:σ[i]? =L (L v))(m:cV R)(h:R H v y):NT C E R (L y) σ H<|au i:=λU Q s k=>⟨v,hi,k.ok U v y (az.refl _) J<|m _ _ _ _ s h⟩
theorem iH(m:cV R)(h:R H v y):NT C E R (L y) σ H<|tC v:=λU Q s k=>k.ok U v y (az.refl _) J<|m _ _ _ _ s h
abbrev fV(τ:Type):=Hp->ag V->τ->Prop
def cq:fV j1:=λ_ vs _=>vs=[]
def aQ(R:bO α)(A:fV τ):fV<|α×τ:=λH vs x=>∃v r,vs=v::r/\R H v x.1/\A H r x.2
def Fg(A:fV τ):Prop:=∀H H' v x,az H H'->A H v x->A H' v x
theorem yR:Fg cq:=λ_ _ _ _ _ h=>h
theorem mq{A:fV τ}(h1:cV R)(h2:Fg A):Fg<|aQ R A:=λH H' vs x s h=>by
 obtain⟨v,r,e,a,b⟩:=h;exact⟨v,r,e,h1 _ _ _ _ s a,h2 _ _ _ _ s b⟩
structure XZ(C:ak)(A:fV τ)(H:Hp)(t:aw τ)(Q:ag V->Hp->Prop)(E:XK):Prop where
 ok:∀H' vs y,az H H'->t=L y->A H' vs y->Q vs H'
 no:∀H',az H H'->t=ah->E (.ref C) ah H'
def NA(C:ak)(E:XK)(A:fV τ)(t:aw τ)(σ:St)(H:Hp)(ta:TA):Prop:=∀U Q,az H U->XZ C A U t Q E->ta σ U Q
theorem bQ:NA C E cq (L ()) σ H b8:=λU Q _ k=>k.ok U [] () (az.refl _) J J
theorem aF{A:fV τ}{t:aw τ}(m:cV R)(h1:NT C E R r σ H te)(h2:NA C E A t σ H ta):NA C E (aQ R A) (r.bind λx=>t.map λy=>(x,y)) σ H<|aU te ta:=λU Q s k=>by
 refine h1 U _ s ⟨λH2 v x s2 e q=>h2 H2 _ (s.trans s2) ⟨λH3 vs y s3 e3 q3=>?_,λH3 s3 e3=>?_⟩,λH2 s2 e=>?_⟩
 ·exact k.ok H3 _ (x,y) (s2.trans s3) (by rw[e,e3];rfl) ⟨v,vs,J,m _ _ _ _ s3 q,q3⟩
 ·exact k.no H3 (s2.trans s3) (by rw[e,e3];rfl)
 ·exact k.no H2 s2 (by rw[e];rfl)
def c7(C:ak)(A:fV τ)(R:bO α)(f:τ->aw α):Sp:=λvs H Q E=>∃t,A H vs t/\bW C R H (f t) Q E
theorem cP{A:fV τ}{t:aw τ}{f:τ->aw α}(h:NA C E A t σ H ta):NT C E R (t.bind f) σ H<|d8 (c7 C A R f) [] E ta:=λU Q s k=>
 h U _ s ⟨λH2 vs y s2 e q=>⟨y,by rw[o8];exact q,(k.at_ s2).eq (by rw[e];rfl)⟩,λH2 s2 e=>k.no H2 s2 (by rw[e];rfl)⟩
theorem oF{A:fV τ}{t:aw τ}{f:β×τ->aw α}(h0:NT C E R' (L y) σ H te)(mo:cV R')(hi:∀U v,R' U v y-> ∃a dx fs,v= .ref a/\U a=L (.ins D dx fs)/\fs.lookup m=ah)(h:NA C E A t σ H ta):NT C E R (t.bind λx=>f (y,x)) σ H<|eu D m (c7 C (aQ R' A) R f) [] E te ta:=λU Q s k=>by
 refine(h0.at_ s).go λv H2 s2 q=>?_;obtain⟨a,dx,fs,e1,e2,e3⟩:=hi H2 v q;refine⟨a,dx,fs,e1,e2,e3,h H2 _ (s.trans s2) ⟨λH3 vs z s3 e q3=>⟨_,⟨v,vs,by rw[o8],mo _ _ _ _ s3 q,q3⟩,(k.at_<|s2.trans s3).eq (by rw[e];rfl)⟩,λH3 s3 e=>k.no H3 (s2.trans s3) (by rw[e];rfl)⟩⟩
theorem ka{K:aq}(j:af)(h0:NT C E R' (L y) σ H te)(hi:∀U v,R' U v y-> ∃p xs u,v= .ref p/\cD K U p xs/\xs[j]? =L u/\R U u x):NT C E R (L x) σ H<|bY (dI K) te (tC<|.int j):=λU Q s k=>by
 refine(h0.at_ s).go λv H2 s2 q=>?_;obtain⟨p,xs,u,e1,e2,e3,e4⟩:=hi H2 v q;exact⟨p,xs,j,u,e1,J,e2,tO e3,k.ok H2 u x s2 J e4⟩
theorem y'{A:fV τ}{t:aw τ}{f:τ->aw α}(h:NA C E A t σ H ta)(hl:∀U vs y,A U vs y->vs.length<=bH)(hr:∀U vs y p,A U vs y->U p=L (.tup vs)-> ∃z,f y=L z/\R U (.ref p) z)(mo:Fg A):NT C E R (t.bind f) σ H<|kN ta:=λU Q s k=>
 h U _ s ⟨λH2 vs y s2 e q=>⟨hl _ _ _ q,λp hp=>by
  obtain⟨z,e1,e2⟩:=hr (aC H2 p<|.tup vs) vs y p (mo _ _ _ _ (az.new hp) q) bp
  exact k.ok _ _ z (s2.trans<|az.new hp) (by rw[e];exact e1) e2⟩,λH2 s2 e=>k.no H2 s2 (by rw[e];rfl)⟩
end
end L2
namespace L2
open PySem PySem.Spec PyProof.Rows
section
variable{X:Cx}{e a:Expr}{te ta:TE}{pos:gP}
theorem fs{N P:ag ax}{sc:lZ}(a:sc.kind= .function:=by rfl)(b:sc.isCoroutine=aK:=by rfl)(c:sc.isGenerator=aK:=by rfl)(d:N.Nodup:=by decide+kernel)(e:N.take P.length=P:=by rfl)(f:∀x∈P,sc.names.lookup x=L .local\/sc.names.lookup x=L .cell:=by decide+kernel)(g:∀y∈sc.names,y.2≠ .free:=by decide+kernel):bE N P sc:=⟨a,b,c,d,e,f,g⟩
theorem aX(ha:PE X a ta):PE X (.Subscript a (.Constant (.int i) j p) pos)<|bY (dI X.K) ta (tC<|.int i):=dY uj ha a_ λ_ _=>J
theorem bh(he:PE X e ta)(hb:FJ e f X.env (da e X.env)=da e X.env:=by exact J):PE X (.Attribute e f pos)<|cZ X.K ta f:=pe_fld he hb
theorem bA(i:af){oJ:gP}(hN:X.N.Nodup)(he:PE X e te)(hi:X.N[i]? =L x:=by exact J)(hx:Loc X.env.scope x:=by first|exact Cb J|exact Fo J)(hs:zD e (L<|.Name x oJ) pos.line X.env=pure aK:=by rfl)(hf:X.fn x=ao\/X.env.scope.names.lookup x=L .local:=by first|exact .inl J|exact .inr J|assumption):PS X (.Assign [.Name x oJ] e pos) (jU te<|eE i):=ps_set hN hi hx he hs hf
theorem ej(i:af)(hN:X.N.Nodup)(hi:X.N[i]? =L x:=by exact J)(hx:Loc X.env.scope x:=by first|exact Cb J|exact Fo J)(hf:X.fn x=ao\/X.env.scope.names.lookup x=L .local:=by first|exact .inl J|exact .inr J|assumption):PG X (.Name x pos)<|eE i:=pg_name hN hi hx hf
end
theorem bk(h:Kh N sc aT own=ao:=by kernel_rfl):vA N sc aT own:=YN h
theorem cV.up{R:bO α}(m:cV R)(s:az H H')(h:R H v x):R H' v x:=m _ _ _ _ s h
theorem sr:az H H:=λ_ _ h=>h
section
variable{X:Cx}{e1 e2 e3 e4 e5:Expr}{t1 t2 t3 t4 t5:TE}
theorem bu(h1:PE X e1 t1)(k1:dq [e1] X.env=(aK,da e1 X.env)::dq [] X.env:=by rfl):PA X [e1]<|aU t1 b8:=dz h1 uH k1
theorem bJ(h1:PE X e1 t1)(h2:PE X e2 t2)(k1:dq [e1,e2] X.env=(aK,da e1 X.env)::dq [e2] X.env:=by rfl)(k2:dq [e2] X.env=(aK,da e2 X.env)::dq [] X.env:=by rfl):PA X [e1,e2] (aU t1<|aU t2 b8):=dz h1 (bu h2 k2) k1
theorem bF(h1:PE X e1 t1)(h2:PE X e2 t2)(h3:PE X e3 t3)(k1:dq [e1,e2,e3] X.env=(aK,da e1 X.env)::dq [e2,e3] X.env:=by rfl)(k2:dq [e2,e3] X.env=(aK,da e2 X.env)::dq [e3] X.env:=by rfl)(k3:dq [e3] X.env=(aK,da e3 X.env)::dq [] X.env:=by rfl):PA X [e1,e2,e3]<|aU t1 (aU t2<|aU t3 b8):=dz h1 (bJ h2 h3 k2 k3) k1
end
end L2
namespace L2
open PySem PySem.Spec PyProof.Rows
section
variable{aJ:Model}{A:oa}{E:aE->de->Prop}{s:de}
theorem setFlight_anyW
 (Gv:B.StaysIn s.heap) (hl:s.heap.FunFrames B l) (ht:s.heap.TracedAtW B e df a0 fl)
 (h:∀h' C8,B.StaysIn h'->h'.FunFrames B l->h'.TracedAtW B e df a0 C8->(∀b o,s.heap.get? b=L o->(∀vs,o.data≠ .fields vs)->h'.get? b=L o)->Q () {s with heap:=h'}):
 b_ aJ A (setFlight (.ref e) fr) Q E s:=by
 obtain⟨oe,vs,T,oT,ts,he,wx,hd,h1,uh,hTe,hT,hdT,h3⟩:=ht;have Rj:=(Array.getElem?_eq_some_iff.mp h3).1;have other:∀b,b≠T->(s.heap.update T (Xx (·.setIfInBounds 3 (fr.elim Cy λf=>rawInt f)))).get? b=s.heap.get? b:=λb hb=>Jr _ _<|dy hb
 have DR:∀b o,s.heap.get? b=L o->(∀vs,o.data≠ .fields vs)->b≠T:=λb o hb pF q=>by
  rw[q,hT] at hb;injection hb with hb;subst hb;exact pF ts hdT
 refine dh<|BJ he hd h1 ?_
 refine wpAny_setField hT hdT Rj (h _ (fr.elim Cy λf=>rawInt f) (λb o yz=>(other b λq=>by rw[q,uh] at yz;cases yz).trans<|Gv b o yz)
  (hl.of_keeps λb o hb pF=>⟨o,(other b<|DR b o hb pF).trans hb,J⟩) ?_ λb o hb pF=>(other b<|DR b o hb pF).trans hb)
 exact⟨oe,vs,T,_,_,(other e<|dy hTe).trans he,wx,hd,h1,uh,hTe,WK _ hT (Obj.isFreed_of_fields<|Xw hdT _),Xw hdT _,by simp[Rj]⟩
theorem leaves_anyW
 (rS:A.frames=L (env::bC)) (hf:env.frame=L cM) (Gv:B.StaysIn s.heap) (yD:B.get? e=ah) (hl:s.heap.FunFrames B<|env::bC) (ht:s.heap.TracedAtW B e df a0 fl)
 (hQ:∀h',Jq B bC e df a0 h'->s.heap.UpToSlots h'->Q () {s with heap:=h'}):b_ aJ A (Lx env<|.ref e) Q E s:=by
 by_cases Gu:fl=rawInt cM
 ·subst Gu
  refine dh<|wpAny_noteFrame_againW hf ht ?_;refine wpAny_landsW ⟨Gv,yD,hl,ht⟩ λh' Gu sm=>?_;obtain⟨k1,k2,⟨_,_,k3⟩,k4⟩:=Gu;exact hQ h' ⟨k1,k2,k3,k4⟩ sm
 obtain⟨oe,vs,T,oT,ts,he,⟨wx,h0⟩,hd,h1,uh,hTe,hT,hdT,h3⟩:=ht;subst wx;unfold Lx G_;simp only[hf];refine dh (dh<|BJ he hd h1 ?_);refine dh<|BJ hT hdT h3 ?_;rw[ay (show¬_ fromλz=>Gu<|eq_of_beq z)];refine dh<|wpAny_setField hT hdT (Array.getElem?_eq_some_iff.mp h3).1 ?_;have other:∀b,b≠T->(s.heap.update T (Xx (·.setIfInBounds 3 Cy))).get? b=s.heap.get? b:=λb hb=>Jr _ _<|dy hb;have DR:∀b o,s.heap.get? b=L o->(∀vs,o.data≠ .fields vs)->b≠T:=λb o hb pF q=>by
  rw[q,hT] at hb;injection hb with hb;subst hb;exact pF ts hdT
 refine wpAny_newEntryW rS (hl.of_keeps λb o hb pF=>⟨o,(other b<|DR b o hb pF).trans hb,J⟩) hf ((other e<|dy hTe).trans he)
  (λb o yz=>(other b λq=>by rw[q,uh] at yz;cases yz).trans<|Gv b o yz) yD hd (Array.getElem?_eq_some_iff.mp h1).1 h0
  λh'⟨x1,⟨_,_,x2⟩,x3,x4⟩=>hQ h' ⟨x1,yD,x2,x3⟩ λb o hb pF=>x4 b o ((other b<|DR b o hb pF).trans hb) pF
theorem QK{B B' h h':b9}:∀{l:ag kj},h.FunFrames B l->(∀b,B.get? b=ah->B'.get? b=ah)->(∀b∈eY l,h'.get? b=h.get? b)->h'.FunFrames B' l
 |[],_,_,_=>trivial
 |env::l,⟨hk,⟨cM,o,hf,hn,ho,hd⟩,hr⟩,hb,hs=>by
  have e:eY (env::l)=cM::eY l:=by unfold eY;rw[zO,hf]
  exact⟨hk,⟨cM,o,hf,hb cM hn,(hs cM (by rw[e];exact ik)).trans ho,hd⟩,QK hr hb λb z=>hs b (by rw[e];exact gz _ z)⟩
end
section
variable{X:Cx}{C:ak}
abbrev Cx.iy(X:Cx)(C:ak)(E:XK)(s:de)(H:Hp)(aT:lZ)(fY:kj)(fp:ag ak):Cx:={X.j5 s H aT fY fp with
 xe:=λe s'=>∃(ai:ag<|ak×eN)(σ:St)(U:Hp)(s1:de),Inv (X.j5 s H aT fY fp) ai σ U s1/\aO X.prog X.w C X.stack U s1 E e s'}
theorem Inv.YM{σ:St}(I:Inv (X.iy C E s H aT fY fp) ai σ U s1):Inv (X.j5 s H aT fY fp) ai σ U s1:=⟨I.ok.at_ J J J J J J J J J J J I.ok.hd,I.os,I.eC,I.base,I.h_,I.cell,I.free,I.jL,I.jg,I.bK,I.bG⟩
theorem Inv.iy{σ:St}(I:Inv (X.j5 s H aT fY fp) ai σ U s1):Inv (X.iy C E s H aT fY fp) ai σ U s1:=⟨I.ok.at_ J J J J J J J J J J J I.ok.hd,I.os,I.eC,I.base,I.h_,I.cell,I.free,I.jL,I.jg,I.bK,I.bG⟩
theorem jO:lV (aO X.prog X.w C) (X.iy C E s H aT fY fp) E:=λai σ U s1 e s' I h=>⟨ai,σ,U,s1,I.YM,h⟩
def BX(C:ak)(X:Cx)(E:XK):Prop:=∀e s' E1,(∀E2,b_ (bX X.prog X.w) X.A (Lx X.env e) (λ_ uS=>aO X.prog X.w C X.bC X.sX X.gF E e uS) E2 s')->E1=X.xe->E1 e s'
theorem jM{K:aq}:BX C (l_ (aO P w C) P w K mg base N di aT f cd A bC s H E) E:=λe s' E1 h he=>by
 subst he;exact h _
theorem YO(hx:X.ex=[])(fF:X.stack=X.env::X.bC)(hf:X.env.frame=L X.env.locals)(lv:BX C X E)
 {oW:St} (I3:Inv X pins3 oW H3 s3) (AF:ce.frame=X.env.frame) (wy:∀b∈fp,kP X pins3 H3 b)
 (h:(X.iy C E s3 H3 aT ce fp).xe e s'):
 wQ (bX X.prog X.w) X.A ce (λx uS=>CY (bX X.prog X.w) X.A X.xe use Qf acc ce.locals (.error x) uS) e s':=by
 obtain⟨ai,σ,U,s1,I,a,t,H',B,rfl,os,eC,fl,bK,kp,hq⟩:=h;have above:=I.ok.above;have ZI:∀b∈eY X.stack,b<s3.heap.objs.size:=λb hb=>by
  obtain⟨_,o,ho,_⟩:=I.ok.lq.mem (show b∈(X.j5 s3 H3 aT ce fp).fs from hb);exact d_ ho
 have nL:ce.locals∉eY X.stack:=λz=>absurd (gn (ZI _ z) above)<|mU _;obtain⟨m,⟨oL,es,ep,hoL,hdL,rL⟩,_⟩:=I.h_;have K4:=kp.keep ce.locals oL hoL I.free nL;have K6:=kp.free ce.locals oL hoL I.free;have C8:Jq B (X.env::X.bC) a (.ref C) (.ref t) s'.heap:=by rw[<-fF];exact fl
 have hnote:G_ (.ref a) ce=G_ (.ref a) X.env:=by
  unfold G_ PySem.frameOf;rw[AF]
 unfold wQ;rw[hnote];refine wpAny_looks_onW (show X.A.frames=L _ by rw[<-fF];exact I3.ok.frames) hf C8 λh4 Di gU=>?_;obtain⟨Gp,yD,ff4,tr4⟩:=Di;have ZO:∃m,h4.Ns ce.locals m/\ ∀h',E8 ce.locals h4 h'-> ∀fY,fY.locals=ce.locals->b_ (bX X.prog X.w) X.A (PySem.passOn "comprehension.variables-let-go" (.ref a) fY:Sem aE) (λ_ _=>eW) X.xe {s' with heap:=h'}:=by
  refine⟨m,⟨oL,es,ep,Gp _ _ K4,hdL,rL⟩,λh5 sb fY _=>?_⟩;have aL:a≠ce.locals:=λz=>by rw[z,K4] at yD;cases yD
  have ZW:(z5 B _).StaysIn h5:=λb o e=>by
   have e1:=JY _ e;have ne:b≠ce.locals:=λz=>by
    have:=XO (h:=B) (b:=ce.locals) [ce.locals]<|by simp
    rw[z,this] at e;cases e
   rw[sb.2 b ne];exact Gp b o e1
  have nB:∀b,B.get? b=ah->(z5 B _).get? b=ah:=λb e=>by
   cases q:(z5 B [ce.locals]).get? b with
   |none=>rfl
   |some o=>rw[JY _ q] at e;cases e
  have ZA:=QK ff4 nB λb hb=>sb.2 b λz=>nL (by rw[<-z,fF];exact hb);have V3:h5.TracedAtW (z5 B [ce.locals]) a (.ref C) (.ref t)<|rawInt X.env.locals:=by
   obtain⟨oe,vs,T,oT,ts,he,wx,hd,h1,uh,hTe,hT,hdT,h3⟩:=tr4;have TL:T≠ce.locals:=λz=>by rw[z,K4] at uh;cases uh
   exact⟨oe,vs,T,oT,ts,(sb.2 a aL).trans he,wx,hd,h1,nB T uh,hTe,(sb.2 T TL).trans hT,hdT,h3⟩
  have tr5':=V3;obtain⟨oe,vs,T,oT,ts,he,wx,hd,h1,uh,hTe,hT,hdT,h3⟩:=tr5';refine dh<|BJ he hd h1 ?_;have rest:b_ (bX X.prog X.w) X.A (do setFlight (.ref a) fY.frame;throw (.ref a):Sem aE) (λ_ _=>eW) X.xe {s' with heap:=h5}:=by
   refine dh (setFlight_anyW ZW ZA V3 λh6 QD ZX ZC tr6 k6=>?_);refine wpAny_throw<|lv _ _ _ (λE2=>?_) J;refine leaves_anyW (show X.A.frames=L _ by rw[<-fF];exact I3.ok.frames) hf ZX (nB a yD) ZC tr6 λh7 ZD sm7=>?_;have nx:∀b,b∉X.ex:=λb z=>by rw[hx] at z;cases z
   have kK:∀{b:ak}{o:eN},X.gF.heap.get? b=L o->b∉fp/\b≠ce.locals:=λ{b o}e0=>by
    have lt:=d_ e0;refine⟨λz=>?_,λz=>?_⟩
    ·rcases(wy b z).2.2.2.1 with q|q
     ·exact nx b q
     ·exact absurd (gn lt q)<|mU _
    ·rw[z] at lt
     exact absurd (gn (gn lt I3.sz) above)<|mU _
   have wR:∀{b:ak}{o:eN},X.gF.heap.get? b=L o->b∉X.fs->b∉eY X.stack:=λ{b o}e0 hb z=>by
    rcases List.mem_cons.mp (I3.BC b z) with q|q
    ·exact absurd (gn (d_ e0) I3.ok.above) (by rw[q];exact mU _)
    ·exact hb q
   have ins:∀b,b∈X.fs->b∈eY X.stack:=λb hb=>by
    rw[fF];unfold eY;rw[zO]
    split
    ·exact hb
    ·exact gz _ hb
   have sm:∀b o,b≠ce.locals->s'.heap.get? b=L o->_-> ∃sl,h7.get? b=L {o with slots:=sl}:=λb o ne e0 nf=>by
    obtain⟨sl,e1⟩:=gU b o e0 nf;have e2:=(sb.2 b ne).trans e1;have e3:=k6 b _ e2 nf;obtain⟨xp,e4⟩:=sm7 b _ e3 nf;exact⟨xp,e4⟩
   refine⟨a,t,H',z5 B _,J,os.trans<|I.os.trans I3.os,eC,ZD,λb o e0=>?_,⟨λb o e0 n hb=>?_,λb o e0 n hb nf=>?_,λb o e0 n=>?_,λb o e0 hb=>?_,λb xs e0=>?_,λb o u e0=>?_,λb ps e0=>?_⟩,hq⟩
   ·refine(bK b o e0).vd (λb' u ud q=>Fv _ q λz=>?_) (λ_ q=>q) λ_ _ q=>q
    have z:=by simpa using z
    rcases ud with r|r
    ·rw[<-z,r,e0] at K6;cases K6
    ·rw[z,K6] at r;cases r
   ·have e1:=I3.base.keep b o e0 n hb<|nx b
    have n1:=I3.base.free b o e0 n<|nx b;have e2:=I.base.keep b o e1 n1 (wR e0 hb) (kK e0).1;have n2:=I.base.free b o e1 n1 (kK e0).1;exact Fv _ (kp.keep b o e2 n2<|wR e0 hb)<|by simpa using(kK e0).2
   ·obtain⟨Iq,e1⟩:=I3.base.jj b o e0 n hb<|nx b
    have n1:=I3.base.free b o e0 n<|nx b;obtain⟨xp,e2⟩:=I.base.jj b _ e1 n1 (ins b hb) (kK e0).1;have n2:=I.base.free b _ e1 n1 (kK e0).1;obtain⟨EB,e3⟩:=kp.jj b _ e2 n2 (ins b hb) nf;obtain⟨sl4,e4⟩:=sm b {o with slots:=EB} (kK e0).2 e3 nf;exact⟨sl4,e4⟩
   ·obtain⟨o1,e1⟩:=I3.base.there b o e0<|nx b
    have n1:=I3.base.free b o e0 n<|nx b;obtain⟨o2,e2⟩:=I.base.there b o1 e1 (kK e0).1;exact kp.free b o2 e2<|I.base.free b o1 e1 n1 (kK e0).1
   ·obtain⟨o1,e1⟩:=I3.base.there b o e0<|nx b
    obtain⟨o2,e2⟩:=I.base.there b o1 e1 (kK e0).1;obtain⟨o3,e3⟩:=kp.there b o2 e2<|wR e0 hb;exact⟨o3,Fv _ e3<|by simpa using(kK e0).2⟩
   ·exact kp.mH b xs (I.base.mH b xs<|I3.base.mH b xs e0)
   ·exact kp.lh b o u (I.base.lh b o u<|I3.base.lh b o u e0)
   ·obtain⟨m1,e1⟩:=I3.base.mF b ps e0
    obtain⟨m2,e2⟩:=I.base.mF b _ e1;obtain⟨m3,e3⟩:=kp.mF b _ e2;exact⟨m1++_,by rw[e3,Jj,Jj]⟩
  first
   |exact rest
   |exact dh<|gc rest
 cases use<;>exact ZO
end
end L2
namespace L2
open PySem PySem.Spec PyProof.Rows
theorem N1{t:Sem α}{Q Q':α->de->Prop}(hE:∀e s,E e s->E' e s)(h:b_ aJ A t Q E s)(hQ:∀a s,Q a s->Q' a s):b_ aJ A t Q' E' s:=kO h hQ hE
section
variable{X:Cx}
theorem RH{σ:St}
 (Dr:X.ex=[]) (fF:X.stack=X.env::X.bC) (hf:X.env.frame=L X.env.locals) (lv:BX C X E) (hc:X.j6=ao) (hN:X.N.Nodup) (I:Inv X ai σ H s) (hi:PI X tg hZ wi) (ok:vA X.N X.env.scope aT own)
 (hg:∀s H C1 cl fp,PG (X.iy C E s H aT (jt aT cl C1 X.env) fp) tg g) (ht:∀s H C1 cl fp,zX (X.iy C E s H aT (jt aT cl C1 X.env) fp) lC tt)
 (he:∀s H C1 cl fp,PE (X.iy C E s H aT (jt aT cl C1 X.env) fp) elt te) (hs:∀x,C9 hZ X.env x=pure x)
 (h:mE wi g tt te (own.map (·.2)) σ H Q)
 (K8:∀D C1 s' m H',Inv X ai σ H' s'->Q (.ref D) H'->s'.heap.Ns C1 m->kP X ai H' C1->CY (bX X.prog X.w) X.A X.xe use Qf (.ref D) C1 (.ok .next) s'):
 b_ (bX X.prog X.w) X.A (comprehension (.ListComp elt [⟨tg,hZ,lC,0⟩] aT pos) aT X.env oJ (newList []) aK (da hZ X.env) use) Qf X.xe s:=by
 have wz:∀y∈aT.names,y.2= .free-> ∃c,X.env.cells.lookup y.1=L c:=λy hy e=>by
  rcases ok.free y hy e with k|k
  ·exact I.ok.t_ _<|.inl k
  ·exact I.ok.t_ _<|.inr k
 refine wpAny_comprehension_free J hs (P_ wz) ok.kind (λy hy e=>by rw[ok.zH y hy,e])
  (cj (hi ai s σ H _ I h) λxv s1 hx=>cj hx λGL s2 h2=>?_)
 obtain⟨it,fp,tn,cz,H2,e,I2,T,my,f2,q⟩:=h2;subst e;refine EY (Sw ?_) (by show 0<=bH;decide);generalize hD:s2.heap.objs.size=D;have K5:=I2.bK.fresh<|B6 hD;obtain⟨W,⟨m0,w0⟩,turn⟩:=q D K5;generalize Dn:({s2 with heap:=s2.heap.push {cls:=.type "list",data:=.seq ([]:ag aE).toArray}})=s3;have I3:Inv X ai σ (aC H2 D<|.lst []) s3:=by
  rw[<-Dn];refine I2.kF (λb o e=>iK _ e) (B6 hD) ⟨eI _,[],0,.nil,?_⟩;rw[<-hD];exact o6 _ J
 have h3:s3.heap=s2.heap.push {cls:=.type "list",data:=.seq [].toArray}:=by rw[<-Dn]
 have sz:∀b∈fp,b<s2.heap.objs.size:=λb hb=>by
  obtain⟨o,e,_⟩:=T.obj _ _ my b hb;exact d_ e
 have f3:∀b∈fp,kP X ai (aC H2 D<|.lst []) b/\b<s3.heap.objs.size:=λb hb=>by
  have d7:=sz b hb;refine⟨⟨?_,(f2 b hb).2⟩,by rw[h3,o7];exact JM d7⟩;rw[bI (by rw[<-hD];exact jX d7)];exact(f2 b hb).1
 have BB:tn 0 s3.heap:=T.keep _ _ _ my λb _ o e=>by rw[h3];exact iK _ e
 have I4:=(P0 I3 ok hN f3).iy (C:=C) (E:=E);have pg:=hg s3 (aC H2 D<|.lst []) s3.heap.objs.size (iz (s3.heap.objs.size+1) aT.names<|js X.env.cells aT.names []) fp;have pt:=ht s3 (aC H2 D<|.lst []) s3.heap.objs.size (iz (s3.heap.objs.size+1) aT.names<|js X.env.cells aT.names []) fp;have pe:=he s3 (aC H2 D<|.lst []) s3.heap.objs.size (iz (s3.heap.objs.size+1) aT.names<|js X.env.cells aT.names []) fp;show tT _ _ (.compStart _ 0 _ _<|jt aT (iz _ aT.names _) s3.heap.objs.size X.env) _ {s3 with heap:=xk _ aT.names};have DO:=λb hb=>(f3 b hb).1.1;generalize AF:jt aT _ s3.heap.objs.size X.env=ce at I4 pg pt pe⊢;have cL:ce.locals=s3.heap.objs.size:=by subst AF;rfl
 generalize ZY:aC H2 D (.lst [])=H3 at I3 I4 pg pt pe w0 DO f3;generalize Ll:({s3 with heap:=xk (s3.heap.push {cls:=.type "dict",data:=.dict #[]}) aT.names})=s4 at I4⊢;have EK:tn 0 s4.heap:=T.keep _ _ _ BB λb _ o e=>by rw[<-Ll];exact HF _ _ _ _<|iK _ e
 have qN:∀{aS:St}{H':Hp}{s':de},Inv (X.iy C E s3 H3 aT ce fp) [] aS H' s'->(∀b∈fp,H' b=ah)-> ∀b∈fp,kP (X.iy C E s3 H3 aT ce fp) [] H' b:=λ{aS H' s'}I' hn b hb=>
  ⟨hn b hb,(I'.ok.As b hb).1,I'.ok.Au b hb,.inl hb,λx c e=>(I'.ok.As b hb).2 x c e,λp hp=>absurd (show p∈[]++[] from hp)<|by simp⟩
 have hcf:ce.frame=X.env.frame:=by rw[<-AF];rfl
 have KG:∀e s',(X.iy C E s3 H3 aT ce fp).xe e s'->wQ _ X.A ce (λx uS=>CY _ X.A X.xe use Qf _ s3.heap.objs.size _ uS) e s':=λe s' z=>by
  have q:=YO (use:=use) (Qf:=Qf) (acc:=.ref D) Dr fF hf lv I3 hcf (λb hb=>(f3 b hb).1) z;rw[cL] at q;exact q
 have DG:tT (bX X.prog X.w) X.A (.compLoop (.ListComp elt [⟨tg,hZ,lC,0⟩] aT pos) 0 (.ref it) (.ref D) ce) (CY (bX X.prog X.w) X.A X.xe use Qf (.ref D) s3.heap.objs.size) s4:=by
  refine Qa (λn s'=>∃i H',Inv (X.iy C E s3 H3 aT ce fp) [] _ H' s'/\tn i s'.heap/\(∀b∈fp,H' b=ah)/\W i n H') ?_ m0 ⟨0,H3,I4,EK,DO,w0⟩
  rintro n s5 ⟨i,H5,I5,st5,n5,w5⟩
  rcases turn i n H5 w5 with⟨lQ,qq⟩|⟨go,Nx,hNx,step⟩
  ·have td:=T.done (X.iy C E s3 H3 aT ce fp) J J J hc i [] s5 _ H5 (λ_ _=>eW) I5 (qN I5 n5) st5 lQ
   refine vh td λr s6⟨hr,I6⟩=>?_;subst hr;have I7:=I3.P6 I6.os I6.base I6.bK I6.eC λb hb=>⟨(f3 b hb).1.2.2.2.1,(f3 b hb).1.2.1,(f3 b hb).1.2.2.2.2.1,(f3 b hb).1.2.2.2.2.2⟩;have nC:=by
    have z:=I6.free;rw[cL] at z;exact z
   obtain⟨m,hn,_⟩:=I6.h_;rw[cL] at hn;exact K8 D s3.heap.objs.size s6 m H5 I7 qq hn<|I3.yu (dO _) nC
  ·have ti:=T.item (X.iy C E s3 H3 aT ce fp) J J J hc i [] s5 _ H5 (λ_ _=>eW) I5 (qN I5 n5) st5 go
   refine vh ti λr s6⟨u,hr,h6⟩=>?_;subst hr;refine vh h6 λ_ s7⟨x,H7,I7,r7,y7,st7,n7⟩=>?_;have Ju:=I7.Mp (qN I7 n7)<|T.obj _ _ st7;refine N1 KG (pg _ s7 _ H7 x u _ Ju r7<|step x H7 y7) λ_ s8⟨vz,H8,I8,hw8,q8⟩=>?_;refine N1 KG (pt _ s8 vz H8 _ I8 q8) λb s9⟨H9,I9,q9⟩=>?_;have dj:∀{s':de}{H':Hp},Inv (X.iy C E s3 H3 aT ce fp) ([]++Ec fp s7.heap) vz H' s'->Nx H'-> ∃m,m<n/\ ∃i H',Inv (X.iy C E s3 H3 aT ce fp) [] _ H' s'/\tn i s'.heap/\(∀b∈fp,H' b=ah)/\W i m H':=λ{s' H'}I' nx=>by
    obtain⟨m',hm,w'⟩:=hNx H' nx;have Eb:∀b∈fp,∀o,s7.heap.get? b=L o->s'.heap.get? b=L o/\H' b=ah:=λb hb o e=>
     let z:=I'.jg _ (tj _ (tj _<|GY hb e))
     ⟨z.1,z.2.1⟩
    have hl:(c8 σ (own.map (·.2))).length=vz.length:=by rw[<-hw8,Jd]
    refine⟨m',hm,i+1,H',(I'.ES).sN hl λj v e=>?_,T.keep _ _ _ st7 λb hb o e=>(Eb b hb o e).1,λb hb=>?_,w'⟩
    ·rw[<-hw8] at e
     exact(Je e).1
    ·obtain⟨o,e,_⟩:=T.obj _ _ st7 b hb
     exact(Eb b hb o e).2
   cases b with
   |false=>
    exact dj I9 q9
   |true=>
    refine N1 KG (pe _ s9 vz H9 _ I9 q9) λz Bq⟨yv,xG,I10,r10,acc,hD10,hz10,nx⟩=>?_;exact PK (X:=X.iy C E s3 H3 aT ce fp) I10 hD10 hz10 r10 λs11 Jt=>dj Jt nx
 exact Y3 DG<|T.uW X.A 0 _ _ _ EK DG
theorem oH(Dr:X.ex=[])(fF:X.stack=X.env::X.bC)(hf:X.env.frame=L X.env.locals)(lv:BX C X E)(hc:X.j6=ao)(hN:X.N.Nodup)(hi:PI X tg hZ wi)(ok:vA X.N X.env.scope aT own)
 (hg:∀s H C1 cl fp,PG (X.iy C E s H aT (jt aT cl C1 X.env) fp) tg g) (ht:∀s H C1 cl fp,zX (X.iy C E s H aT (jt aT cl C1 X.env) fp) lC tt)
 (he:∀s H C1 cl fp,PE (X.iy C E s H aT (jt aT cl C1 X.env) fp) elt te) (hs:∀x,C9 hZ X.env x=pure x:=by intro _;rfl):
 PE X (.ListComp elt [⟨tg,hZ,lC,0⟩] aT pos) (mE wi g tt te (own.map (·.2))):=by
 intro ai s σ H Q I h;refine RH Dr fF hf lv hc hN I hi ok hg ht he hs h λD C1 s' m H' I' q hn f=>⟨m,hn,λAB sb=>?_⟩;obtain⟨f0,f1,f2,f3,f4,f5⟩:=f;exact⟨.ref D,H',I'.turned (λb o hb e=>(sb.2 b hb).trans e) f0 f1 f3 f4 f5,J,q⟩
theorem Bj(Dr:X.ex=[])(fF:X.stack=X.env::X.bC)(hf:X.env.frame=L X.env.locals)(lv:BX C X E)(hc:X.j6=ao)(hN:X.N.Nodup)(hy:X.N[i]? =L y)(Rk:X.env.scope.names.lookup y=L .local)
 (hsw:zD (.ListComp elt [⟨tg,hZ,lC,0⟩] aT pos) (L<|.Name y py) spos.line X.env=pure ao) (hi:PI X tg hZ wi) (ok:vA X.N X.env.scope aT own)
 (hg:∀s H C1 cl fp,PG (X.iy C E s H aT (jt aT cl C1 X.env) fp) tg g) (ht:∀s H C1 cl fp,zX (X.iy C E s H aT (jt aT cl C1 X.env) fp) lC tt)
 (he:∀s H C1 cl fp,PE (X.iy C E s H aT (jt aT cl C1 X.env) fp) elt te) (hs:∀x,C9 hZ X.env x=pure x:=by intro _;rfl):
 PS X (.Assign [.Name y py] (.ListComp elt [⟨tg,hZ,lC,0⟩] aT pos) spos) (jU (mE wi g tt te (own.map (·.2)))<|eE i):=by
 intro ai s σ H D I h;rw[exec_Assign_Name_used _ _ _ _ hsw];refine dh (Wo<|dh ?_);refine dh (cj (RH Dr fF hf lv hc hN I hi ok hg ht he hs h λcM C1 s' m H' I' q hn f=>?_) λ_ s' hq=>gc<|gc hq);refine wpAny_assign_Name (VH (v:=V.ref cM) I' hN hy (.inl Rk) J (λs2 I2⟨a,sb,ha⟩=>?_)<|.inr Rk);obtain⟨f0,f1,f2,f3,f4,f5⟩:=f;have Z7:C1≠a:=by
  rcases ha with z|z
  ·rw[z];exact f1
  ·exactλe=>f4 y a z e.symm
 refine⟨m,hn.sameBut sb Z7,λh3 pZ=>?_⟩;exact⟨_,H',I2.turned (λb o hb e=>(pZ.2 b hb).trans e) f0 f1 f3 f4 f5,q⟩
end
end L2
namespace L2
open PySem PySem.Spec PyProof.Rows
open Bw (ba dW)
def cf{α:Type}(R:V->α->Prop):ag V->ag α->Prop
 |[],[]=>i9
 |v::vs,x::xs=>R v x/\cf R vs xs
 |_,_=>eW
section
variable{α β:Type}{R R':V->α->Prop}
theorem cf.bG:∀{vs:ag V}{xs:ag α},cf R vs xs->vs.length=xs.length
 |[],[],_=>rfl
 |_::_,_::_,h=>gH (·+1)<|cf.bG h.2
theorem cf.imp(f:∀v x,R v x->R' v x):∀{vs:ag V}{xs:ag α},cf R vs xs->cf R' vs xs
 |[],[],_=>trivial
 |_::_,_::_,h=>⟨f _ _ h.1,cf.imp f h.2⟩
theorem cf.get:∀{vs:ag V}{xs:ag α},cf R vs xs-> ∀{i:af}{v:V},vs[i]? =L v-> ∃x,xs[i]? =L x/\R v x
 |[],[],_,i,v,e=>by simp at e
 |_::_,x::_,h,0,v,e=>by cases e;exact⟨x,J,h.1⟩
 |_::_,_::_,h,i+1,v,e=>cf.get h.2 e
theorem cf.rO:∀{vs:ag V}{xs:ag α},cf R vs xs-> ∀{i:af}{x:α},xs[i]? =L x-> ∃v,vs[i]? =L v/\R v x
 |[],[],_,i,x,e=>by simp at e
 |v::_,_::_,h,0,x,e=>by cases e;exact⟨v,J,h.1⟩
 |_::_,_::_,h,i+1,x,e=>cf.rO h.2 e
theorem cf.append:∀{vs us:ag V}{xs ys:ag α},cf R vs xs->cf R us ys->cf R (vs++us) (xs++ys)
 |[],_,[],_,_,h=>h
 |_::_,_,_::_,_,h,g=>⟨h.1,cf.append h.2 g⟩
theorem cf.snoc(h:cf R vs xs)(g:R v x):cf R (vs++[v])<|xs++[x]:=h.append ⟨g,cg⟩
theorem cf.set:∀{vs:ag V}{xs:ag α}i{v:V}{x:α},cf R vs xs->R v x->cf R (vs.set i v) (xs.set i x)
 |[],[],_,_,_,_,_=>trivial
 |_::_,_::_,0,_,_,h,g=>⟨g,h.2⟩
 |_::_,_::_,i+1,_,_,h,g=>⟨h.1,cf.set i h.2 g⟩
theorem cf.drop:∀{vs:ag V}{xs:ag α}i,cf R vs xs->cf R (vs.drop i) (xs.drop i)
 |[],[],0,_=>trivial
 |[],[],_+1,_=>trivial
 |_::_,_::_,0,h=>h
 |_::_,_::_,i+1,h=>cf.drop i h.2
theorem cf.take:∀{vs:ag V}{xs:ag α}i,cf R vs xs->cf R (vs.take i) (xs.take i)
 |[],[],0,_=>trivial
 |[],[],_+1,_=>trivial
 |_::_,_::_,0,_=>trivial
 |_::_,_::_,i+1,h=>⟨h.1,cf.take i h.2⟩
theorem cf.Md:∀{vs:ag V}{xs:ag α},vs.length=xs.length->(∀(i:af)v x,vs[i]? =L v->xs[i]? =L x->R v x)->cf R vs xs
 |[],[],_,_=>trivial
 |[],_::_,h,_=>nomatch h
 |_::_,[],h,_=>nomatch h
 |_::_,_::_,h,f=>⟨f 0 _ _ J J,cf.Md (by simpa using h) λi v x h1 h2=>f (i+1) v x h1 h2⟩
theorem cf.at_(h:cf R vs xs){i:af}(h1:vs[i]? =L v)(h2:xs[i]? =L x):R v x:=by
 obtain⟨y,e,r⟩:=h.get h1;rw[h2] at e
 cases e
 exact r
end
def cp(H H':Hp):Prop:=(∀b xs,H b=L (.tup xs)->H' b=L (.tup xs))/\ ∀b o u,H b=L (.iP o u)->H' b=L (.iP o u)
def fJ(H H':Hp):Prop:=cp H H'/\ ∀b C dx fs,H b=L (.ins C dx fs)->H' b=L (.ins C dx fs)
theorem cp.trans(a:cp H U)(b:cp U H2):cp H H2:=⟨λc x h=>b.1 c x<|a.1 c x h,λc x u h=>b.2 c x u<|a.2 c x u h⟩
theorem fJ.trans(a:fJ H U)(b:fJ U H2):fJ H H2:=⟨a.1.trans b.1,λc x u f h=>b.2 c x u f<|a.2 c x u f h⟩
theorem az.i(s:az H H'):fJ H H':=⟨⟨λb x h=>s _ _ h,λb o u h=>s _ _ h⟩,λb C dx fs h=>s _ _ h⟩
theorem cp.tup{K:aq}(e:cp H H')(h:cD K H a xs):cD K H' a xs:=by
 rcases h with(h|⟨o,h⟩)|h
 ·exact .inl (.inl (e.1 _ _ h))
 ·exact .inl (.inr ⟨o,e.2 _ _ _ h⟩)
 ·exact .inr h
def JQ:aw HO->Prop
 |some (.tup _)=>eW
 |some (.iP _ _)=>eW
 |_=>i9
def JO:aw HO->Prop
 |some (.ins _ _ _)=>eW
 |x=>JQ x
theorem JO.t(h:JO x):JQ x:=by
 cases x with
 |none=>trivial
 |some o=>cases o<;>first|exact h|trivial
theorem cp.aC(h:JQ<|H p):cp H<|aC H p o:=⟨λb xs e=>by
 rw[bI λz=>by rw[z] at e;rw[e] at h;exact h];exact e,λb q u e=>by
 rw[bI λz=>by rw[z] at e;rw[e] at h;exact h];exact e⟩
theorem fJ.aC(h:JO<|H p):fJ H<|aC H p o:=⟨cp.aC h.t,λb C dx fs e=>by
 rw[bI λz=>by rw[z] at e;rw[e] at h;exact h];exact e⟩
def lT(R:bO α):Prop:=∀H H' v x,cp H H'->R H v x->R H' v x
def kR(R:bO α):Prop:=∀H H' v x,fJ H H'->R H v x->R H' v x
section
variable{α β:Type}{R:bO α}
theorem lT.up(m:lT R)(s:cp H H')(h:R H v x):R H' v x:=m _ _ _ _ s h
theorem kR.up(m:kR R)(s:fJ H H')(h:R H v x):R H' v x:=m _ _ _ _ s h
theorem lT.i(m:lT R):kR R:=λH H' v x s h=>m H H' v x s.1 h
theorem kR.m(m:kR R):cV R:=λH H' v x s h=>m H H' v x s.i h
def RL(K:aq)(R:bO α):bO<|ag α:=λH v xs=>∃p vs,v= .ref p/\SqL K H p vs/\cf (R H) vs xs
def RT(K:aq)(R:bO α):bO<|ag α:=λH v xs=>∃p vs,v= .ref p/\cD K H p vs/\cf (R H) vs xs
theorem cw{K:aq}(m:cV R):cV<|RL K R:=λH H' v xs s⟨p,vs,e,h,a⟩=>⟨p,vs,e,s.seq h,a.imp λv x=>m H H' v x s⟩
theorem yP{K:aq}(m:cV R):cV<|RT K R:=λH H' v xs s⟨p,vs,e,h,a⟩=>⟨p,vs,e,s.tup h,a.imp λv x=>m H H' v x s⟩
theorem Sf{K:aq}(m:lT R):lT<|RT K R:=λH H' v xs s⟨p,vs,e,h,a⟩=>⟨p,vs,e,s.tup h,a.imp λv x=>m H H' v x s⟩
end
section
variable{α β:Type}{K:aq}{C:ak}{R:bO α}{R':bO β}{Hb Hc H U:Hp}{r:aw α}{Q:VK}{E:XK}{σ:St}
theorem bW.bindB(k:bW C R Hb (rb.bind f) Q E)(sb:az Hb Hc)(h:NT C E R' rb σ Hc te)
 (hq:∀y v U,az Hc U->rb=L y->R' U v y->bW C R Hb (f y) Q E->Q' v U):te σ Hc Q':=by
 refine h Hc Q' (az.refl Hc) ⟨λH' v y s e q=>hq y v H' s e q ?_,λH' s e=>?_⟩
 ·have k':=k
  rw[e] at k';exact k'
 ·refine k.no H' (sb.trans s) ?_
  rw[e];rfl
theorem bW.gQ(k:bW C R Hb r Q E)(sb:az Hb Hc)(h:NT C E R r σ Hc te):te σ Hc Q:=h Hc Q (az.refl Hc)<|k.at_ sb
def uY(C D:ak)(A:fV τ)(R:bO α)(f:τ->aw α):Sp:=λvs H Q E=>∃(Hb:Hp)(p dx:ak)(t:τ)(r:ag V),vs= .ref p::r/\H p=L (.ins D dx [])/\az Hb H/\Hb p=ah/\A Hb r t/\(∀H' y,az Hb H'->f t=L y->R H' (.ref p) y->Q .cE H')/\ ∀H',az Hb H'->f t=ah->E (.ref C) ah H'
theorem yX{A:fV τ}{t:aw τ}{f:τ->aw α}(h:NA C E A t σ H ta):NT C E R (t.bind f) σ H<|NY D (uY C D A R f) [] E ta:=λU Q s k=>
 h U _ s ⟨λH2 vs y s2 e q=>λx dx n0 n1 n2=>by
  have k2:bW C R H2 (f y) Q E:=(k.at_ s2).eq (by rw[e];rfl)
  refine⟨H2,x,dx,y,vs,by rw[o8],bp,(az.new n1).trans (az.new<|by rw[bI<|dy n2];exact n0),n0,q,λH' z s' e' r'=>⟨J,k2.ok H' _ z s' e' r'⟩,k2.no⟩,λH2 s2 e=>k.no H2 s2 (by rw[e];rfl)⟩
def tJ(R:bO α):Prop:=∀D H a b v z,H D=L (.lst a)->R H v z->R (aC H D<|.lst b) v z
theorem kR.mD(m:kR R):tJ R:=λD H a b v z h r=>m _ _ _ _ (fJ.aC (by rw[h];trivial)) r
theorem Bv{f:β->aw α}{ys:ag β}(h:ys[j]? =L y):ba f (ys.take<|j+1)=(ba f<|ys.take j).bind λzs=>(f y).map λz=>zs++[z]:=by
 have hj:j<ys.length:=by
  rcases Fj j ys.length with z|z
  ·exact z
  ·rw[BZ z] at h;cases h
 rw[Xe,h,Bw.UT]
 congr 1
 funext zs
 show(((f y).bind λb=>L [b])).map _=_
 cases f y<;>rfl
structure eX(D:ak)(H0:Hp)(R:bO α)(f:β->aw α)(ys:ag β)(j:af)(Hc:Hp):Prop where
 same:az H0 Hc
 ex:∃d6 zs,Hc D=L (.lst d6)/\cf (R Hc) d6 zs/\ba f (ys.take j)=L zs
theorem eX.start{ys:ag β}(hD:H0 D=ah):eX D H0 R f ys 0 (aC H0 D<|.lst []):=⟨az.new hD,[],[],bp,cg,by rw[mP];rfl⟩
theorem eX.step{y:β}(st:tJ R)(m:cV R)(hD:H0 D=ah)(dG:ys.length<=bH)(k:bW C (RL K R) H0 (ba f ys) Q E)(hy:ys[j]? =L y)(I:eX D H0 R f ys j Hc)(h:NT C E R (f y) σ Hc te):te σ Hc λv H4=>∃acc,H4 D=L (.lst acc)/\acc.length<bH/\eX D H0 R f ys (j+1) (aC H4 D (.lst<|acc++[v])):=by
 obtain⟨sm,d6,zs,e1,a1,e2⟩:=I;have hj:j<ys.length:=by
  rcases Fj j ys.length with z|z
  ·exact z
  ·rw[BZ z] at hy;cases hy
 refine h Hc _ (az.refl Hc) ⟨λH' v z s e q=>⟨d6,s _ _ e1,?_,?_⟩,λH' s e=>?_⟩
 ·rw[a1.bG,Bw.iI e2,km]
  omega
 ·have e3:=s _ _ e1
  refine⟨λb o e4=>?_,d6++[v],zs++[z],bp,?_,?_⟩
  ·rw[bI<|dv e4 hD]
   exact s _ _<|sm _ _ e4
  ·exact(a1.snoc (v:=v) (x:=z)|>λ_=>((a1.imp λv x h=>st D H' d6 _ v x e3<|m _ _ _ _ s h).snoc<|st D H' d6 _ v z e3 q))
  ·rw[Bv hy,e2,e]
   rfl
 ·exact k.no H' (sm.trans s) (Bw.Bu e<|jW hy)
theorem eX.done{ys:ag β}(k:bW C (RL K R) H0 (ba f ys) Q E)(I:eX D H0 R f ys ys.length Hc):Q (.ref D) Hc:=by
 obtain⟨sm,d6,zs,e1,a1,e2⟩:=I;rw[lS] at e2;exact k.ok Hc _ zs sm e2 ⟨D,d6,J,SqL.of e1,a1⟩
theorem w8(st:tJ R)(m:cV R)(m':cV R')(h0:NT C E (RL K R') (L ys) σ H tl)(dG:ys.length<=bH)
 (hw:∀v,c8 ((c8 σ vs).set i<|L v) vs=c8 σ vs) (he:∀U v y,az H U->y∈ys->R' U v y->NT C E R (f y) ((c8 σ vs).set i<|L v) U te):
 NT C E (RL K R) (ba f ys) σ H<|mE (yH K tl) (eE i) oU te vs:=λU Q s k=>by
 refine(h0.at_ s).go λv H2 s2 q=>?_;obtain⟨p,us,rfl,hp,ha⟩:=q;refine⟨p,J,⟨us,hp⟩,λD hD=>?_⟩;have k2:=k.at_ s2;refine GQ (eX D H2 R f ys) (eX.start hD) (λj Hc _ I=>I.same.seq hp) (λj x Hc hx I=>?_) λHc I=>?_
 ·obtain⟨y,hy,ry⟩:=ha.get hx
  refine⟨hw x,?_⟩;exact eX.step st m hD dG k2 hy I<|he Hc x y (s.trans<|s2.trans I.same) (jW hy)<|m' _ _ _ _ I.same ry
 ·rw[ha.bG] at I
  exact eX.done k2 I
theorem SU{i n:af}(st:tJ R)(m:cV R)(h0:NA C E (aQ (λ_ v j=>v= .int j) cq) (L (n,())) σ H ta)(dG:n<=bH)
 (hw:∀v,c8 ((c8 σ vs).set i<|L v) vs=c8 σ vs) (he:∀U j,az H U->j<n->NT C E R (f j) ((c8 σ vs).set i (L<|.int j)) U te):
 NT C E (RL K R) (ba f<|il n) σ H<|mE (GG ta) (eE i) oU te vs:=λU Q s k=>by
 refine h0 U _ s ⟨λH2 us y s2 e q=>?_,λH2 s2 e=>nomatch e⟩
 cases e
 obtain⟨v,r,rfl,e1,e2⟩:=q;subst e1;subst e2;have hz:bH<2^62:=by decide
 refine⟨n,J,om,om,λD hD=>?_⟩;have k2:=k.at_ s2;rw[kl];refine GR (eX D H2 R f<|il n) (eX.start hD) (λj Hc hj I=>?_) λHc I=>?_
 ·refine⟨hw _,?_⟩
  rw[vE];exact eX.step st m hD (by rw[vH];exact dG) k2 (by simp[hj]) I<|he Hc j (s.trans<|s2.trans I.same) hj
 ·have I':eX D H2 R f (il n) (il n).length Hc:=by rw[vH];exact I
  exact eX.done k2 I'
end
end L2
namespace L2
open PySem PySem.Spec PyProof.Rows
theorem Zu(l:ak)(gC:jC aE)(n:af)(b:ak)(dd:aw ak)(Du:jC aE)(n2:af)(sl:jC<|aw aE)(Rg:¬(!gC.isEmpty&&Jl (gC.size+Du.size))=ao)(Rh:gC.size<=bH)(GA:gC.size+Du.size<=bH+1):Meets (Builtin.«list.extend» ⟨[.ref l,.ref b],[]⟩) λ_ R s=>s.heap.get? l=L {cls:=.type "list",dict:=ah,data:=.seq gC n,slots:= #[]}/\s.heap.get? b=L {cls:=.type "tuple",dict:=dd,data:=.seq Du n2,slots:=sl}/\R (.ok<|.ret Cy) {s with heap:=s.heap.update l (JR λx=>x++Du),toks:=s.toks}:=.of_wp λprog w A R s h=>by
  obtain⟨hp,g,d,tk,os⟩:=s;obtain⟨hl,hb,h⟩:=h;have f1:=AutoSeq1.idx_int;have f2:=AutoSeq1.sub_tuple_tuple;have f3:=AutoSeq1.sub_list_list;have f4:=AutoSeq1.sub_tuple_list;have f5:=AutoSeq1.sub_list_tuple;
  have hz':(gC++Du).size<=bH+1:=by rw[Array.size_append];exact GA
  wp_walk using(wpAny_updateSeq hl J),Wu hl,Wu hb;exact⟨_,J,h⟩
def T6(K:aq):V->ag V->Hp->VK->Prop:=λx vs H Q=>∃l b xs zs,x= .ref l/\vs=[.ref b]/\H l=L (.lst xs)/\cD K H b zs/\xs.length+zs.length<=bH/\Q .cE (aC H l (.lst<|xs++zs))
theorem So:JG X "list.extend"<|T6 X.K:=by
 intro ai s σ H x vs v us Q I rx rv h;obtain⟨l,b,xs,zs,rfl,rfl,hH,hB,hz,q⟩:=h
 cases rx
 obtain⟨u,rfl,ru⟩:=rv.one
 cases ru
 obtain⟨z,aZ,n,r,hl,e⟩:=I.AW hH;obtain⟨mj,r2,⟨⟨df,dd,data,sl⟩,e2,hc,n2,hd⟩,z2⟩:=I.tuple hB;subst hc hd;have hX:=r2.length;have nJ:aZ.toArray.size+mj.toArray.size<=bH:=by rw[gk,gk];omega
 have Lg:¬(!aZ.toArray.isEmpty&&Jl (aZ.toArray.size+mj.toArray.size))=ao:=by
  rw[SE nJ,Ww];exact vB
 refine P7 O0 ⟨_,e,J⟩ WJ (WI _ _)
  (Zu l aZ.toArray n b dd mj.toArray n2 sl Lg (by rw[gk];omega) om) ⟨e,e2,?_⟩
 refine⟨.cE,_,I.LD hH e (by simp) (r.append r2) ?_,J,q⟩;rw[iL];omega
end L2
namespace L2
open PySem PySem.Spec PyProof.Rows
open Bw (ba dW)
theorem QJ{K:aq}{g:TG}{tb:TS}{D:Ends}(hn:xs.length=ys.length)(Pv:af->St->Hp->Prop)(h0:Pv 0 σ H)(hl:∀i σ H,i<=xs.length->Pv i σ H->SqL K H a xs/\SqL K H b ys)
 (hs:∀i x y T σ H,xs[i]? =L x->ys[i]? =L y->Pv i σ H->H T=ah->g (.ref T) σ (aC H T<|.tup [x,y]) λc9 H2=>tb {D with nx:=Pv<|i+1,ct:=Pv<|i+1,bk:=D.nx} c9 H2) (hd:∀σ H,Pv xs.length σ H->D.nx σ H):
 ∃W:af->af->St->Hp->Prop,(∃m,W 0 m σ H)/\ ∀i m σ H,W i m σ H->((BV K a b).lQ i H/\D.nx σ H)\/((BV K a b).go i H/\ ∃N,(∀aS H',N aS H'-> ∃m',m'<m/\W (i+1) m' aS H')/\ ∀x H',(BV K a b).sP i H x H'->g x σ H' λc9 H2=>tb {D with nx:=N,ct:=N,bk:=D.nx} c9 H2):=by
 refine⟨λi m σ H=>m=xs.length-i/\i<=xs.length/\Pv i σ H,⟨xs.length,by simp,eI _,h0⟩,?_⟩
 rintro i m σ H ⟨rfl,hi,p⟩
 obtain⟨q1,q2⟩:=hl i σ H hi p;by_cases d7:i<xs.length
 ·have hlt2:=by omega
  refine .inr ⟨⟨xs,ys,xs[i],ys[i],q1,q2,by simp[d7],by simp[hlt2]⟩,Pv<|i+1,λaS H' p'=>⟨xs.length-(i+1),om,J,d7,p'⟩,λx H' y=>?_⟩;obtain⟨T,u,v,rfl,hT,rfl,h1,h2⟩:=y;exact hs i u v T σ H (h1 xs q1) (h2 ys q2) p hT
 ·have e:i=xs.length:=by omega
  subst e;exact .inl ⟨⟨xs,ys,q1,q2,.inl<|dO _⟩,hd σ H p⟩
theorem KL{K:aq}{g:TG}{tb:TS}{D:Ends}(Pv:af->St->Hp->Prop)(h0:Pv 0 σ H)(hl:∀i σ H,i<=xs.length->Pv i σ H->SqL K H a xs)
 (hs:∀i x T σ H,xs[i]? =L x->Pv i σ H->H T=ah->g (.ref T) σ (aC H T<|.tup [.int i,x]) λc9 H2=>tb {D with nx:=Pv<|i+1,ct:=Pv<|i+1,bk:=D.nx} c9 H2) (hd:∀σ H,Pv xs.length σ H->D.nx σ H):
 ∃W:af->af->St->Hp->Prop,(∃m,W 0 m σ H)/\ ∀i m σ H,W i m σ H->((BS K a).lQ i H/\D.nx σ H)\/((BS K a).go i H/\ ∃N,(∀aS H',N aS H'-> ∃m',m'<m/\W (i+1) m' aS H')/\ ∀x H',(BS K a).sP i H x H'->g x σ H' λc9 H2=>tb {D with nx:=N,ct:=N,bk:=D.nx} c9 H2):=by
 refine⟨λi m σ H=>m=xs.length-i/\i<=xs.length/\Pv i σ H,⟨xs.length,by simp,eI _,h0⟩,?_⟩
 rintro i m σ H ⟨rfl,hi,p⟩
 have q1:=hl i σ H hi p;by_cases d7:i<xs.length
 ·refine .inr ⟨⟨xs,xs[i],q1,by simp[d7]⟩,Pv<|i+1,λaS H' p'=>⟨xs.length-(i+1),om,J,d7,p'⟩,λx H' y=>?_⟩
  obtain⟨T,u,rfl,hT,rfl,h1⟩:=y;exact hs i u T σ H (h1 xs q1) p hT
 ·have e:i=xs.length:=by omega
  subst e;exact .inl ⟨⟨xs,q1,dO _⟩,hd σ H p⟩
abbrev KQ(K:aq)(i j:af):TG:=QM K 2 (KP (eE i)<|KP (eE j) QL)
theorem Az{K:aq}(hT:H T=L (.tup [x,y]))(h:Q ((σ.set i<|L x).set j<|L y) H):KQ K i j (.ref T) σ H Q:=⟨T,[x,y],J,cD.of hT,J,x,[y],J,y,[],J,J,h⟩
section
variable{α β γ:Type}{C:ak}{K:aq}{R:bO α}{R1:bO β}{R2:bO γ}{H U:Hp}{Q:VK}{E:XK}{σ:St}
theorem nt_lcZ(st:tJ R)(m:cV R)(m1:cV R1)(m2:cV R2)(h0:NA C E (aQ (RL K R1)<|aQ (RL K R2) cq) (L (ys,zs,())) σ H ta)(hl:ys.length=zs.length)(dG:ys.length<=bH)
 (hw:∀u v,c8 (((c8 σ vs).set i<|L u).set j<|L v) vs=c8 σ vs) (he:∀U u v y z,az H U->(y,z)∈ys.zip zs->R1 U u y->R2 U v z->NT C E R (f (y,z)) (((c8 σ vs).set i<|L u).set j<|L v) U te):
 NT C E (RL K R) (ba f<|ys.zip zs) σ H<|mE (Ro K ta) (KQ K i j) oU te vs:=λU Q s k=>by
 refine h0 U _ s ⟨λH2 us y s2 e q=>?_,λH2 s2 e=>nomatch e⟩
 cases e
 obtain⟨u1,r1,rfl,⟨p,vs1,rfl,hp,ha⟩,u2,r2,rfl,⟨p2,vs2,rfl,lu,rQ⟩,rfl⟩:=q;refine⟨p,p2,vs1,vs2,J,hp,lu,λD hD=>?_⟩;have k2:=k.at_ s2;have ha:cf _ vs1 ys:=ha;have rQ:cf _ vs2 zs:=rQ;have l1:=ha.bG;have l2:=rQ.bG;have lz:(ys.zip zs).length=ys.length:=by rw[Fe];omega
 refine⟨λi m Hc=>m=ys.length-i/\i<=ys.length/\eX D H2 R f (ys.zip zs) i Hc,⟨ys.length,by simp,eI _,eX.start hD⟩,?_⟩
 rintro n mm Hc ⟨rfl,hn,I⟩
 have q1:=I.same.seq hp;have q2:=I.same.seq lu;by_cases d7:n<ys.length
 ·refine .inr ⟨⟨vs1,vs2,vs1[n],vs2[n],q1,q2,by simp[show n<vs1.length by omega],by simp[show n<vs2.length by omega]⟩,λHc=>eX D H2 R f _ _ Hc,λH' p'=>⟨ys.length-_,om,J,d7,p'⟩,λx H' y=>?_⟩
  obtain⟨T,u,v,rfl,hT,rfl,e1,e2⟩:=y;obtain⟨y,hy,ry⟩:=ha.get<|e1 vs1 q1;obtain⟨z,hz,rz⟩:=rQ.get<|e2 vs2 q2;refine Az bp ⟨hw u v,?_⟩;have sT:az Hc (aC Hc T<|.tup [u,v]):=az.new hT;have I':eX D H2 R f (ys.zip zs) n (aC Hc T<|.tup [u,v]):=by
   obtain⟨sm,d6,zz,b1,b2,b3⟩:=I;exact⟨sm.trans sT,d6,zz,sT _ _ b1,b2.imp λv x=>m _ _ _ _ sT,b3⟩
  have Rl:(ys.zip zs)[n]? =L (y,z):=by rw[Oz];exact⟨hy,hz⟩
  exact eX.step st m hD om k2 Rl I'<|he _ u v y z (s.trans<|s2.trans I'.same) (jW Rl) (m1 _ _ _ _ I'.same ry)<|m2 _ _ _ _ I'.same rz
 ·have e:n=ys.length:=by omega
  subst e;rw[<-lz] at I;exact .inl ⟨⟨vs1,vs2,q1,q2,.inl om⟩,eX.done k2 I⟩
def rj(A:fV τ)(c:τ->Prop):fV τ:=λH vs t=>A H vs t/\c t
theorem nT{A:fV τ}{c:τ->Prop}{t:aw τ}(h:NA C E A t σ H ta)(hc:∀y,t=L y->c y):NA C E (rj A c) t σ H ta:=λU Q s k=>
 h U Q s ⟨λH' vs y s' e q=>k.ok H' vs y s' e ⟨q,hc y e⟩,k.no⟩
end
end L2
namespace L2
open PySem PySem.Spec PyProof.Rows
class LR(A:fV τ)(n:outParam af):Prop where
 l:∀{H vs t},A H vs t->vs.length=n
instance:LR cq 0:=⟨λh=>gH JD h⟩
instance{A:fV τ}{R:bO α}[q:LR A n]:LR (aQ R A)<|n+1:=⟨λ⟨_,_,e,_,h⟩=>e▸gH (·+1) (q.l h)⟩
instance{A:fV τ}{c:τ->Prop}[q:LR A n]:LR (rj A c) n:=⟨λh=>q.l h.1⟩
class LS(sp:Sp)(n:outParam af):Prop where
 l:∀{vs H Q E},sp vs H Q E->vs.length=n
instance{A:fV τ}{f:τ->aw α}[q:LR A n]:LS (c7 C A R f) n:=⟨λ⟨_,h,_⟩=>q.l h⟩
instance{A:fV τ}{f:τ->aw α}[q:LR A n]:LS (uY C D A R f)<|n+1:=⟨λ⟨_,_,_,_,_,e,_,_,_,h,_⟩=>e▸gH (·+1) (q.l h)⟩
theorem bz.oc{K:aq}{st:dr}[q:LS sp n](F:bz K x di st f fd)(S:bE N ps<|bw st)
 (hb:∀{cG A bC s vs}H(Q E),fg k (A.deeper<|md di (bw st) s.heap.objs.size f cG)->sp vs H Q E-> ∃t,iX (l_ (aO P w C) P w K mg base N di (bw st) f cG A bC s H E) (ju st) t/\t {nx:=λ_ H'=>Q .cE H',rt:=Q} (start N vs) H) (e:n=ps.length:=by rfl):aD P w K mg base (aO P w C) (k+1) f fd ps sp:=F.pQ S (λ_ _ _ _ h=>(q.l h).trans e) λ_ _ _ _ H _ Q E=>hb H Q E
end L2
namespace L2
open PySem PySem.Spec PyProof.Rows
structure tI(k:af)(A:oa):Prop where
 dp:A.depth+3*k+5<My
 un:A.units+16*k+200<ow
theorem tI.depth(r:tI k A):A.depth<My:=by have:=r.dp;omega
theorem tI.deeper(r:tI (k+1) A)(env:kj):tI k<|A.deeper env:=⟨by have:=r.dp;show A.depth+1+3*k+5<_;omega,by have:=r.un;show A.units+3+16*k+200<_;omega⟩
theorem fg.mark(r:fg k A)(h:j<=k)(e:aw aE):tI j<|A.mark e:=⟨by have:=r.dp;show A.depth+3*j+5<_;omega,by have:=r.un;show A.units+16*j+200<_;omega⟩
structure E7(P:cN)(w:World)(K:aq)(mg:ax->aw aE)(base:b9)(CX:og)(k:af)(f:ak)(fd:cX)(ps:ag ax)(sp:Sp):Prop where
 bG:∀vs H Q E,sp vs H Q E->vs.length=ps.length
 run:∀A bC s H j4 us vs Q E,tI k A->sV P w K mg base A bC s H->xD s fd j4 (ps.zip us)->cI vs us->sp vs H Q E->tT (bX P w) A (.call (.ref f) j4) (CR CX bC P w H s Q E) s
def CZ(CX:og)(P:cN)(w:World)(K:aq)(mg:ax->aw aE)(base:b9)(N:ag ax)(di:ax)(aT:lZ)(f:ak)(cd:aE)(A:oa)(bC:ag kj)(s:de)(H:Hp)(E:XK):Cx:={l_ CX P w K mg base N di aT f cd A bC s H E with j6:=aK}
theorem invH_start{K:aq}
 (S:bE N ps aT) (e0:sV P w K mg base A bC s H) (hl:vs.length=ps.length) (r:cI vs us)
 (x:InCallC s s.heap.objs.size (yj (md di aT s.heap.objs.size f cd).kindOf (ps.zip us) λ_=>ah) (iz (s.heap.objs.size+1) aT.names []) (yi (md di aT s.heap.objs.size f cd).kindOf (ps.zip us) λ_=>ah) s1):
 Inv (CZ CX P w K mg base N di aT f cd A bC s H E) [] (start N vs) H s1:=by
 have fj:=by have:=gH JD S.pre;rw[km] at this;omega
 obtain⟨h1,tk,rfl,hk⟩:=x.done;have sk:∀b,b∉(CZ CX P w K mg base N di aT f cd A bC s H E).ex:=λb z=>absurd (show b∈[] from z)<|by simp
 refine⟨⟨e0.gX,S.kind,J,J,dO _,λy z c h1 h2=>?_,λy hy=>?_,λy c _ h=>?_,(λz=>nomatch z),Wt e0.frames,.inr ⟨J,J⟩,λb z=>absurd z<|sk b,e0.bs,e0.rH,λb _ _=>sk b,λb z=>absurd z<|sk b,e0.lq,e0.tW⟩,J,e0.eC,Un.kept hk,⟨_,x.toInCall.ns,λi y v h1 h2 h3=>?_⟩,λy c h=>⟨_,x.cell y c h⟩,e0.bK.fresh<|dO _,λy c h=>?_,λp hp=>absurd (show p∈[] from hp)<|by simp,e0.bK.kept hk,?_⟩
 ·exact name_of_addr x.apart (jE h1)<|jE h2
 ·have hy:=hy
  rcases hy with hy|hy
  ·exact FT hy
  ·exact absurd J (S.SD _<|jE hy)
 ·exact B7 (x.above y c<|jE h)
 ·have hi:i<vs.length:=by
   unfold start at h2;by_cases hi:i<vs.length
   ·exact hi
   ·rw[Ox<|by simpa using hi] at h2
    rw[W_] at h2
    split at h2<;>cases h2
  have ha:vs[i]? =L v:=by
   unfold start at h2;rw[W8<|by simpa using hi,mO] at h2
   cases e:vs[i]? with
   |none=>rw[e] at h2;cases h2
   |some a=>rw[e] at h2;cases h2;rfl
  obtain⟨u,hu,rv⟩:=r.get ha;have hp:ps[i]? =L y:=by
   rw[<-S.pre,Xa om];exact h1
  have DM:ps.Nodup:=by rw[<-S.pre];exact S.nd.sublist<|Xd _ _
  refine⟨u,rv,?_⟩;rcases S.HB y (jW hp) with k|k
  ·exact .inl ⟨k,Kg DM hp hu k⟩
  ·obtain⟨c,e⟩:=FT k
   refine .inr ⟨.inl k,c,e,?_⟩;have q:=x.cell y c e;rw[Kf DM hp hu (by show aT.names.lookup y≠_;rw[k];decide)] at q;exact q
 ·exact e0.bK.fresh<|B7 (x.above y c<|jE h)
 ·unfold start
  show _=N.length;rw[iL,hJ,Xc];omega
theorem ZE{K:aq}{dV kV dR pm cG ct oc:aE}
 (lk:K.lookup f=L ⟨oc,od,.func<|oz gE di params body aT dV kV dR pm an cG ct,uG⟩) (me:FW K cG di=ao) (S:bE N ps aT)
 (bG:∀vs H Q E,sp vs H Q E->vs.length=ps.length)
 (yA:∀A bC s H vs Q E,tI k (A.deeper<|md di aT s.heap.objs.size f cG)->sp vs H Q E-> ∃t,iX (CZ CX P w K mg base N di aT f cG A bC s H E) body t/\t {nx:=λ_ H'=>Q .cE H',rt:=Q} (start N vs) H):
 E7 P w K mg base CX (k+1) f (oz gE di params body aT dV kV dR pm an cG ct) ps sp:=by
 refine⟨bG,λA bC s H j4 us vs Q E hr e0 hb r iD=>?_⟩;have hl:=bG _ _ _ _ iD;have KX:=e0.gX.rZ.keeps λb o e=>(e0.bs b o e).1;have j_:=e0.gX.nolimit.keeps λb o e=>(e0.bs b o e).1;have Ld:∀y∈ps.zip us,aT.names.lookup y.1=L .local\/(aT.names.lookup y.1=L .cell/\((iz (s.heap.objs.size+1) aT.names []).lookup y.1).isSome=ao):=λ⟨n,v⟩hy=>by
  rcases S.HB n (JF hy).1 with q|q
  ·exact .inl q
  ·exact .inr ⟨q,O9 _ _ _ (.inl q)⟩
 refine Y2 hr.depth (KX _ _ lk) J S.co S.AA J (XJ KX me) (hb _ _ _ _ ?_);refine wpAny_newFunctionEnv_cells S.kind Ld λenv he s1 x=>?_;subst he;refine⟨j_.keeps x.toInCall.keep,codeAny_func ?_⟩;obtain⟨t,ht,hq⟩:=yA A bC s H vs Q E (hr.deeper _) iD;have I:Inv (CZ CX P w K mg base N di aT f cG A bC s H E) [] (start N vs) H s1:=invH_start S e0 hl r x;refine kO (ht [] s1 (start N vs) H _ I hq) (λfl s' hs=>?_) λe s' hs=>hs;have dj:∀{aS:St}{H':Hp}{v:V}{u:aE},Inv (CZ CX P w K mg base N di aT f cG A bC s H E) [] aS H' s'->RelV v u->Q v H'->CE bC P w H s Q u s':=λ{aS H' v u}cz rv q=>⟨v,H',cz.os,cz.eC,cz.base,cz.bK,rv,q⟩
 cases fl with
 |ret u=>
  obtain⟨v,aS,H',cz,rv,q⟩:=hs;exact dj cz rv q
 |next=>
  obtain⟨aS,H',cz,q⟩:=hs;exact dj (v:=V.cE) cz J q
 |brk=>
  obtain⟨_,_,_,q⟩:=hs;exact g_ q
 |cont=>
  obtain⟨_,_,_,q⟩:=hs;exact g_ q
section
variable{X:Cx}{CX:og}{k:af}{f:ak}{fd:cX}{ps:ag ax}{sp:Sp}{iO:ag V}{ds:ag aE}{E:XK}{x:ax}{p pos:gP}{e:Expr}{es:ag Expr}{t:TA}
theorem pe_callH(F:E7 X.prog X.w X.K X.mg X.base CX k f fd ps sp)(hr:tI k X.A)(hg:Gl X x)(hm:X.mg x=L (.ref f))(hk:jn X.K (.ref f)=ao)(hb:Binds X.K fd ps ds)(hd:cI iO ds)(hx:lV CX X E)
 (ha:PA X (e::es) t) (oE:(x=="__debug__")=aK:=by decide) (he:dq (e::es) X.env=(aK,da e X.env)::dq es X.env:=by rfl) (fj:(jr pos<|dq es X.env).any (·.1)=aK:=by rfl):
 PE X (.Call (.Name x p) (e::es) [] pos)<|d8 sp iO E t:=by
 intro ai s σ H Q I h;refine EX<|yN I hg hm ?_ oE;refine zY I.ok.gX.rZ hk (cj (ha pos ai s σ H _ I h) λus s1⟨vs,U,I1,r,q⟩=>⟨I1.iE,?_⟩) he fj;have r2:=r.append hd;have hl:(us++ds).length=ps.length:=by rw[<-r2.length];exact F.bG _ _ _ _ q
 refine N7 (yn (F.run X.A X.stack s1 U ⟨us,[]⟩ _ _ Q E hr I1.F' (hb s1 us I1.iE hl) r2 q) λr s' hq=>?_)
 cases r with
 |error e=>exact hx ai σ U s1 e s' I1 hq
 |ok fl=>
  cases fl with
  |ret u=>exact I1.FE hq
  |next=>exact g_ hq
  |brk=>exact g_ hq
  |cont=>exact g_ hq
end
end L2
namespace L2
open PySem PySem.Spec PyProof.Rows
open PySem.W (WData Codec OpenSpec Well WellAll ReadsW ReadsAllW)
mutual
inductive Dw(K:aq)(H:Hp):V->oq->Prop
 |cE:Dw K H .cE .none
 |bl b:Dw K H (.bl b)<|.bool b
 |int i:Dw K H (.int i)<|.int i
 |str x:Dw K H (.str x)<|.str x
 |ny b:Dw K H (.ny b)<|.bytes b.toList
 |lst {a:ak} {xs:ag V} {ds:ag oq}:SqL K H a xs->o4 K H xs ds->Dw K H (.ref a) (.list ds)
 |tup {a:ak} {xs:ag V} {ds:ag oq}:cD K H a xs->o4 K H xs ds->Dw K H (.ref a) (.tuple ds)
inductive o4 K H:ag V->ag oq->Prop
 |nil:o4 K H [] []
 |cons {v:V} {vs:ag V} {d:oq} {ds:ag oq}:Dw K H v d->o4 K H vs ds->o4 K H (v::vs) (d::ds)
end
theorem dw_ints{K:aq}:∀ns:ag ae,o4 K H (ns.map V.int) (ns.map WData.int)
 |[]=>.nil
 |n::r=>.cons (.int n)<|dw_ints r
theorem ints_dw{K:aq}:∀(ns:ag ae)xs,o4 K H xs (ns.map WData.int)->xs=ns.map V.int
 |[],xs,h=>by
  cases h
  rfl
 |n::r,xs,h=>by
  cases h with
  |cons h1 h2=>
   cases h1
   rw[ints_dw r _ h2]<;>rfl
section
variable{P:cN}{w:World}{K:aq}{H:Hp}{h:b9}{R:PySem.W.WRecords}{cl:ax->aw ak}
theorem sqL_at(bK:eG P w H h)(KX:K.In h)(q:SqL K H a xs):∃(aZ:ag aE)(o:eN)(n:af),cI xs aZ/\h.get? a=L o/\o.cls= .type "list"/\o.data= .seq aZ.toArray n:=by
 rcases q with q|⟨o,aZ,n,e,hc,_,hd,_,hv⟩
 ·obtain⟨_,aZ,n,hv,e⟩:=(show gO P w H h a (.lst xs) from q.ok bK)
  exact⟨aZ,_,n,hv,e,J,J⟩
 ·exact⟨aZ.toList,o,n,hv,KX _ _ e,hc,by simp[hd]⟩
theorem sqT_at(bK:eG P w H h)(KX:K.In h)(q:cD K H a xs):∃(aZ:ag aE)(o:eN)(n:af),cI xs aZ/\h.get? a=L o/\o.cls= .type "tuple"/\o.data= .seq aZ.toArray n:=by
 rcases q with q|⟨o,aZ,n,e,hc,hd,_,hv⟩
 ·obtain⟨_,aZ,hv,o,e,hc,n,hd⟩:=(show gO P w H h a (.tup xs) from q.ok bK)
  exact⟨aZ,o,n,hv,e,hc,hd⟩
 ·exact⟨aZ.toList,o,n,hv,KX _ _ e,hc,by simp[hd]⟩
mutual
theorem Dw.Bo(bK:eG P w H h)(KX:K.In h):∀d v u,Dw K H v d->RelV v u-> ∃as,ReadsW R cl h u d as
 | .none,_,_,x,r=>by
  cases x
  cases r
  exact⟨_,ReadsW.none⟩
 | .bool b,_,_,x,r=>by
  cases x
  cases r
  exact⟨_,ReadsW.bool b⟩
 | .int i,_,_,x,r=>by
  cases x
  obtain⟨t,rfl⟩:=r;exact⟨_,ReadsW.int i t⟩
 | .str s,_,_,x,r=>by
  cases x
  obtain⟨t,rfl⟩:=r;exact⟨_,ReadsW.str s t⟩
 | .bytes b,_,_,x,r=>by
  cases x
  obtain⟨t,rfl⟩:=r;exact⟨_,ReadsW.bytes _ t⟩
 | .list ds,_,_,x,r=>by
  cases x with
  |lst hs ha=>
   cases r
   obtain⟨aZ,o,n,rv,ho,hc,hd⟩:=sqL_at bK KX hs;obtain⟨as,hr⟩:=Dw.zl bK KX ds _ aZ ha rv;exact⟨_,ReadsW.list ho hc hd hr⟩
 | .tuple ds,_,_,x,r=>by
  cases x with
  |tup hs ha=>
   cases r
   obtain⟨aZ,o,n,rv,ho,hc,hd⟩:=sqT_at bK KX hs;obtain⟨as,hr⟩:=Dw.zl bK KX ds _ aZ ha rv;exact⟨_,ReadsW.tuple ho hc hd hr⟩
 | .float _,_,_,x,_=>by cases x
 | .dict _,_,_,x,_=>by cases x
 | .bytearray _,_,_,x,_=>by cases x
 | .set _,_,_,x,_=>by cases x
 | .frozenset _,_,_,x,_=>by cases x
 | .obj _ _,_,_,x,_=>by cases x
theorem Dw.zl(bK:eG P w H h)(KX:K.In h):∀ds vs us,o4 K H vs ds->cI vs us-> ∃as,ReadsAllW R cl h us ds as
 |[],_,_,x,r=>by
  cases x
  cases r
  exact⟨_,ReadsAllW.nil⟩
 |d::ds,_,_,x,r=>by
  cases x with
  |cons h1 h2=>
   cases r with
   |cons r1 r2=>
    obtain⟨as,q1⟩:=Dw.Bo bK KX d _ _ h1 r1;obtain⟨bs,q2⟩:=Dw.zl bK KX ds _ _ h2 r2;exact⟨_,ReadsAllW.cons q1 q2⟩
end
end
mutual
def pS:oq->c_
 | .none=>ao
 | .bool _=>ao
 | .int _=>ao
 | .str _=>ao
 | .bytes _=>ao
 | .list xs=>sE xs
 | .tuple xs=>sE xs
 |_=>aK
def sE:ag oq->c_
 |[]=>ao
 |x::r=>pS x&&sE r
end
theorem TH{α:Type}{f:α->oq}(h:∀a,pS (f a)=ao):∀l:ag α,sE (l.map f)=ao
 |[]=>rfl
 |x::r=>by
  show(pS _&&sE (r.map f))=ao;rw[h x,TH h r]<;>rfl
theorem xh:∀(c:Codec)a,pS (c.enc a)=ao
 | .unit,_=>rfl
 | .bool,_=>rfl
 | .int _ _,_=>rfl
 | .nat _ _,_=>rfl
 | .u8,_=>rfl
 | .bytes _ _,_=>rfl
 | .text _ _ _ _,_=>rfl
 | .list _ _ c,a=>TH (λx=>xh c x) a
 | .pair c d,a=>by
  show(pS _&&(pS _&&ao))=ao;rw[xh c a.1,xh d a.2]<;>rfl
 | .triple c d e,a=>by
  show(pS _&&(pS _&&(pS _&&ao)))=ao;rw[xh c a.1,xh d a.2.1,xh e a.2.2]<;>rfl
 | .option c,ah=>rfl
 | .option c,L x=>xh c x
theorem TJ:∀cs a,sE (E5 cs a)=ao
 |[],_=>rfl
 |c::cs,a=>by
  show(pS _&&sE _)=ao;rw[xh c a.1,TJ cs a.2]<;>rfl
theorem N5:∀{xs:ag oq}{d:oq},d∈xs->d.weight<=X8 xs
 |[],d,h=>absurd h<|by simp
 |x::r,d,h=>by
  show d.weight<=x.weight+1+X8 r;rcases List.mem_cons.mp h with e|m
  ·rw[e]
   omega
  ·have z:=N5 m
   omega
def mG:aE->V
 | .none=>.cE
 | .bool b=>.bl b
 | .int i _=>.int i
 | .str x _=>.str x
 | .bytes b _=>.ny b
 | .ref a=>.ref a
 |_=>.cE
def oi(A:ag ak):aE->Prop
 | .none=>i9
 | .bool _=>i9
 | .int _ _=>i9
 | .str _ _=>i9
 | .bytes _ _=>i9
 | .ref a=>a∈A
 |_=>eW
theorem oi.aV(h:∀a∈A,a∈B):∀{u:aE},oi A u->oi B u:=λ{u}x=>by
 cases u with
 |ref a=>exact h a x
 |none=>trivial
 |bool b=>trivial
 |int i t=>trivial
 |str s t=>trivial
 |bytes b t=>trivial
 |_=>exact g_ x
theorem relV_toV(x:oi A u):RelV (mG u) u:=by
 cases u with
 |ref a=>rfl
 |none=>rfl
 |bool b=>rfl
 |int i t=>exact⟨t,J⟩
 |str s t=>exact⟨t,J⟩
 |bytes b t=>exact⟨t,J⟩
 |_=>exact g_ x
theorem BI:∀{vs:ag aE},(∀u∈vs,oi A u)->cI (vs.map mG) vs
 |[],_=>.nil
 |u::r,h=>.cons (relV_toV (h u<|ik ..)) (BI λx hx=>h x<|gz _ hx)
def oX(h:b9)(A:ag ak)(a:ak):Prop:=∃vs:ag aE,vs.length<=bH/\(∀u∈vs,oi A u)/\(h.get? a=L {cls:=.type "list",data:=.seq vs.toArray}\/h.get? a=L {cls:=.type "tuple",data:=.seq vs.toArray})
theorem oX.aV(k:∀a∈A,a∈B)(x:oX h A a):oX h B a:=by
 obtain⟨vs,h1,h2,h3⟩:=x;exact⟨vs,h1,λu hu=>(h2 u hu).aV k,h3⟩
theorem Ja:∀{vs:ag aE}{ds:ag oq},vX P h vs ds->vs.length=ds.length
 |_,_,.nil=>rfl
 |_,_,.cons _ b=>by
  show _+1=_+1;rw[Ja b]
theorem Wg(x:Well P h v<|.list ds):∃(a:ak)(vs:ag aE),v= .ref a/\h.get? a=L {cls:=.type "list",data:=.seq vs.toArray}/\vX P h vs ds:=by
 cases x with
 |list ho oA=>exact⟨_,_,J,ho,oA⟩
theorem Wh(x:Well P h v<|.tuple ds):∃(a:ak)(vs:ag aE),v= .ref a/\h.get? a=L {cls:=.type "tuple",data:=.seq vs.toArray}/\vX P h vs ds:=by
 cases x with
 |tuple ho oA=>exact⟨_,_,J,ho,oA⟩
theorem Wf(x:vX P h us<|d::ds):∃(v:aE)(vs:ag aE),us=v::vs/\Well P h v d/\vX P h vs ds:=by
 cases x with
 |cons a b=>exact⟨_,_,J,a,b⟩
theorem RR(h:n<=1048576):n<=bH:=dJ h dc
section
variable{P:Params}{h:b9}
mutual
theorem Yk:∀d v,Well P h v d->pS d=ao->d.weight<=1048576-> ∃A,oi A v/\ ∀a∈A,oX h A a
 | .none,_,x,_,_=>by
  cases x
  exact⟨[],cg,λa m=>absurd m<|by simp⟩
 | .bool b,_,x,_,_=>by
  cases x
  exact⟨[],cg,λa m=>absurd m<|by simp⟩
 | .int i,_,x,_,_=>by
  cases x
  exact⟨[],cg,λa m=>absurd m<|by simp⟩
 | .str s,_,x,_,_=>by
  cases x
  exact⟨[],cg,λa m=>absurd m<|by simp⟩
 | .bytes b,_,x,_,_=>by
  cases x
  exact⟨[],cg,λa m=>absurd m<|by simp⟩
 | .list ds,_,x,p,z=>by
  obtain⟨a,vs,rfl,ho,oA⟩:=Wg x;have z2:=z;obtain⟨A,h1,h2⟩:=FF ds _ oA p λd hd=>dJ (N5 hd) z2;have k:∀b∈A,b∈a::A:=λb hb=>gz _ hb;refine⟨a::A,ik ..,λb hb=>?_⟩;rcases List.mem_cons.mp hb with e|m
  ·rw[e]
   exact⟨vs,RR (by rw[Ja oA];exact dJ (XQ ds) z2),λu hu=>(h1 u hu).aV k,.inl ho⟩
  ·exact(h2 b m).aV k
 | .tuple ds,_,x,p,z=>by
  obtain⟨a,vs,rfl,ho,oA⟩:=Wh x;have z2:=z;obtain⟨A,h1,h2⟩:=FF ds _ oA p λd hd=>dJ (N5 hd) z2;have k:∀b∈A,b∈a::A:=λb hb=>gz _ hb;refine⟨a::A,ik ..,λb hb=>?_⟩;rcases List.mem_cons.mp hb with e|m
  ·rw[e]
   exact⟨vs,RR (by rw[Ja oA];exact dJ (XQ ds) z2),λu hu=>(h1 u hu).aV k,.inr ho⟩
  ·exact(h2 b m).aV k
 | .float _,_,_,p,_=>oY (show aK=ao from p)
 | .dict _,_,_,p,_=>oY (show aK=ao from p)
 | .bytearray _,_,_,p,_=>oY (show aK=ao from p)
 | .set _,_,_,p,_=>oY (show aK=ao from p)
 | .frozenset _,_,_,p,_=>oY (show aK=ao from p)
 | .obj _ _,_,_,p,_=>oY (show aK=ao from p)
theorem FF:∀ds vs,vX P h vs ds->sE ds=ao->(∀d∈ds,d.weight<=1048576)-> ∃A,(∀u∈vs,oi A u)/\ ∀a∈A,oX h A a
 |[],_,x,_,_=>by
  cases x
  exact⟨[],λu m=>absurd m<|by simp,λa m=>absurd m<|by simp⟩
 |d::ds,_,x,p,z=>by
  obtain⟨v,vs,rfl,x1,x2⟩:=Wf x;have q:=Bool.and_eq_true_iff.mp p;obtain⟨A,a1,a2⟩:=Yk d v x1 q.1 (z d<|ik ..);obtain⟨B,b1,b2⟩:=FF ds vs x2 q.2 λe he=>z e<|gz _ he;have kA:∀b∈A,b∈A++B:=λb hb=>List.mem_append.mpr<|.inl hb;have kB:∀b∈B,b∈A++B:=λb hb=>List.mem_append.mpr<|.inr hb;refine⟨A++B,λu hu=>?_,λb hb=>?_⟩
  ·rcases List.mem_cons.mp hu with e|m
   ·rw[e]
    exact a1.aV kA
   ·exact(b1 u m).aV kB
  ·rcases List.mem_append.mp hb with m|m
   ·exact(a2 b m).aV kA
   ·exact(b2 b m).aV kB
end
end
def Gy(o:eN):aw HO:=match o.data with
 | .seq vs _=>if(o.cls==Aj "list")=ao then L (.iP o (.lst<|vs.toList.map mG)) else L (.iP o (.tup<|vs.toList.map mG))
 |_=>ah
def jI(K:aq)(h:b9)(A:ag ak):Hp:=λb=>if b∈A then(if(K.lookup b).isNone=ao then(h.get? b).bind Gy else ah) else ah
def zV(H:Hp):Prop:=∀b,H b=ah\/ ∃o u,H b=L (.iP o u)
theorem Ra(vs:ag aE):Gy {cls:=.type "list",data:=.seq vs.toArray}=L (.iP {cls:=.type "list",data:=.seq vs.toArray} (.lst<|vs.map mG)):=by
 show(if(Aj "list"==Aj "list")=ao then L _ else L (HO.iP {cls:=.type "list",data:=.seq vs.toArray} (.tup<|vs.toArray.toList.map mG)))=_;rw[aH<|beq_self_eq_true _]
theorem Rb(vs:ag aE):Gy {cls:=.type "tuple",data:=.seq vs.toArray}=L (.iP {cls:=.type "tuple",data:=.seq vs.toArray} (.tup<|vs.map mG)):=by
 show(if(Aj "tuple"==Aj "list")=ao then L (HO.iP {cls:=.type "tuple",data:=.seq vs.toArray} (.lst<|vs.toArray.toList.map mG)) else L _)=_;rw[ay dc]
section
variable{P:cN}{w:World}{K:aq}{h:b9}{A:ag ak}
theorem FG(hb:b∈A)(hk:K.lookup b=ah)(e:h.get? b=L o):jI K h A b=Gy o:=by
 unfold jI;rw[aH hb,hk,aH (show none.isNone=ao from J),e]<;>rfl
theorem of_argH(q:jI K h A b=L u):b∈A/\K.lookup b=ah:=by
 unfold jI at q;by_cases hb:b∈A
 ·rw[aH hb] at q
  cases hk:K.lookup b with
  |none=>exact⟨hb,J⟩
  |some o=>
   rw[hk,ay<|by simp] at q
   cases q
 ·rw[ay hb] at q
  cases q
theorem FH(ar:∀a∈A,oX h A a)(q:jI K h A b=L u):K.lookup b=ah/\ ∃vs:ag aE,vs.length<=bH/\(∀u∈vs,oi A u)/\((h.get? b=L {cls:=.type "list",data:=.seq vs.toArray}/\u= .iP {cls:=.type "list",data:=.seq vs.toArray} (.lst<|vs.map mG))\/
                                                                                                         (h.get? b=L {cls:=.type "tuple",data:=.seq vs.toArray}/\u= .iP {cls:=.type "tuple",data:=.seq vs.toArray} (.tup<|vs.map mG))):=by
 obtain⟨hb,hk⟩:=of_argH q;obtain⟨vs,h1,h2,h3⟩:=ar b hb;refine⟨hk,vs,h1,h2,?_⟩;rcases h3 with e|e
 ·rw[FG hb hk e,Ra] at q
  exact .inl ⟨e,(mV q).symm⟩
 ·rw[FG hb hk e,Rb] at q
  exact .inr ⟨e,(mV q).symm⟩
theorem Ym(ar:∀a∈A,oX h A a):zV<|jI K h A:=λb=>by
 cases q:jI K h A b with
 |none=>exact .inl J
 |some u=>
  obtain⟨_,vs,_,_,⟨_,e⟩|⟨_,e⟩⟩:=FH ar q
  ·exact .inr ⟨_,_,by rw[e]⟩
  ·exact .inr ⟨_,_,by rw[e]⟩
theorem Yl(ar:∀a∈A,oX h A a):eG P w (jI K h A) h:=λb u q=>by
 obtain⟨_,vs,h1,h2,⟨e,rfl⟩|⟨e,rfl⟩⟩:=FH ar q
 ·exact⟨e,by rw[hJ];exact h1,vs,_,BI h2,e⟩
 ·exact⟨e,by rw[hJ];exact h1,vs,BI h2,_,e,J,_,J⟩
theorem Ip{vs us:ag aE}(e:(L {cls:=c,data:=.seq vs.toArray}:aw eN)=L {cls:=c',data:=.seq us.toArray}):c=c'/\vs=us:=by
 have e1:=mV e;have e2:=gH Obj.cls e1;have e3:=gH Obj.data e1;injection e3 with e4
 refine⟨e2,?_⟩;have e5:=gH Oc e4;simpa using e5
theorem Yn(KX:K.In h)(ar:∀a∈A,oX h A a){vs:ag aE}(ha:a∈A)(e:h.get? a=L {cls:=.type "list",data:=.seq vs.toArray}):(∀u∈vs,oi A u)/\SqL K (jI K h A) a (vs.map mG):=by
 obtain⟨us,h1,h2,h3⟩:=ar a ha;have hu:us=vs:=by
  rcases h3 with q|q
  ·rw[e] at q
   exact(Ip q).2.symm
  ·rw[e] at q
   exact absurd (X7 (Ip q).1) dc
 subst hu;refine⟨h2,?_⟩
 cases hk:K.lookup a with
 |none=>exact .inl<|.inr ⟨_,by rw[FG ha hk e,Ra]⟩
 |some o=>
  have e2:=KX a o hk;rw[e] at e2;obtain rfl:=mV e2;exact .inr ⟨_,us.toArray,_,hk,J,J,J,by rw[gk];exact h1,by simpa using BI h2⟩
theorem Yo(KX:K.In h)(ar:∀a∈A,oX h A a){vs:ag aE}(ha:a∈A)(e:h.get? a=L {cls:=.type "tuple",data:=.seq vs.toArray}):(∀u∈vs,oi A u)/\cD K (jI K h A) a (vs.map mG):=by
 obtain⟨us,h1,h2,h3⟩:=ar a ha;have hu:us=vs:=by
  rcases h3 with q|q
  ·rw[e] at q
   exact absurd (X7 (Ip q).1) dc
  ·rw[e] at q
   exact(Ip q).2.symm
 subst hu;refine⟨h2,?_⟩
 cases hk:K.lookup a with
 |none=>exact .inl<|.inr ⟨_,by rw[FG ha hk e,Rb]⟩
 |some o=>
  have e2:=KX a o hk;rw[e] at e2;obtain rfl:=mV e2;exact .inr ⟨_,us.toArray,_,hk,J,J,by rw[gk];exact h1,by simpa using BI h2⟩
mutual
theorem Zo(KX:K.In h)(ar:∀a∈A,oX h A a):∀d v,Well Pm h v d->pS d=ao->oi A v->Dw K (jI K h A) (mG v) d
 | .none,_,x,_,_=>by
  cases x
  exact .cE
 | .bool b,_,x,_,_=>by
  cases x
  exact .bl b
 | .int i,_,x,_,_=>by
  cases x
  exact .int i
 | .str s,_,x,_,_=>by
  cases x
  exact .str s
 | .bytes b,_,x,_,_=>by
  cases x
  have z:=Dw.ny (K:=K) (H:=jI K h A) b.toArray;exact z
 | .list ds,_,x,p,hu=>by
  obtain⟨a,vs,rfl,ho,oA⟩:=Wg x;obtain⟨h2,hs⟩:=Yn KX ar hu ho;exact .lst hs<|F7 KX ar ds _ oA p h2
 | .tuple ds,_,x,p,hu=>by
  obtain⟨a,vs,rfl,ho,oA⟩:=Wh x;obtain⟨h2,hs⟩:=Yo KX ar hu ho;exact .tup hs<|F7 KX ar ds _ oA p h2
 | .float _,_,_,p,_=>oY (show aK=ao from p)
 | .dict _,_,_,p,_=>oY (show aK=ao from p)
 | .bytearray _,_,_,p,_=>oY (show aK=ao from p)
 | .set _,_,_,p,_=>oY (show aK=ao from p)
 | .frozenset _,_,_,p,_=>oY (show aK=ao from p)
 | .obj _ _,_,_,p,_=>oY (show aK=ao from p)
theorem F7{Pm:Params}(KX:K.In h)(ar:∀a∈A,oX h A a):∀ds vs,vX Pm h vs ds->sE ds=ao->(∀u∈vs,oi A u)->o4 K (jI K h A) (vs.map mG) ds
 |[],_,x,_,_=>by
  cases x
  exact .nil
 |d::ds,_,x,p,hu=>by
  obtain⟨v,vs,rfl,x1,x2⟩:=Wf x;have q:=Bool.and_eq_true_iff.mp p;exact .cons (Zo KX ar d v x1 q.1 (hu _<|ik ..)) (F7 KX ar ds vs x2 q.2 λu m=>hu u<|gz _ m)
end
end
theorem spec_call{K:aq}
 (KX:K.In eM.heap) (Q_:eM.heap.Ns d9 mg) (hb:eM.heap.Ns P4 mb) (Z_:∀x:ax,x≠"__name__"->mb x=CL x) (hlim:eM.heap.NoLimit) (hg:eM.gens= #[])
 (Dq:vX w.params eM.heap vp ds) (fj:sE ds=ao) (hwt:∀d∈ds,d.weight<=1048576) (hr:fg k CQ)
 (F:∀base,K.In base->base.Ns d9 mg->aD P w K mg base CX k fa fd ps sp) (hbind:∀s us,us.length=ps.length->xD s fd ⟨us,[]⟩ (ps.zip us)) (dG:ds.length=ps.length)
 (iD:∀H xs,zV H->o4 K H xs ds->sp xs H (λv H'=>Dw K H' v d0) λ_ _ _=>eW)
 (Dd:∀H e s',CX [] H eM (λ_ _ _=>eW) e s'->eW):
 tT (bX P w) CQ (.call (.ref fa) ⟨vp,[]⟩) (λr s'=>∃u as,r= .ok (.ret u)/\ReadsW R cl s'.heap u d0 as/\OldK eM.heap s'.heap/\s'.os=eM.os/\sQ s'.gens) eM:=by
 obtain⟨A,ho,ar⟩:=FF ds vp Dq fj hwt;have hO:zV<|jI K eM.heap A:=Ym ar;have bK:eG P w (jI K eM.heap A) eM.heap:=Yl ar;have hS:=F7 KX ar ds vp Dq fj ho;have hV:=BI ho;have hK:∀b u,jI K eM.heap A b=L u->K.lookup b=ah:=λb u q=>(FH ar q).1;have sk:∀{b:ak}{o:eN}{es:jC zL}{ep:af},eM.heap.get? b=L o->o.data= .dict es ep->jI K eM.heap A b=ah:=λ{b o es ep}e d=>by
  cases q:jI K eM.heap A b with
  |none=>rfl
  |some u=>
   obtain⟨_,vs,_,_,⟨e2,_⟩|⟨e2,_⟩⟩:=FH ar q
   ·rw[e2] at e
    cases e
    have d':=d
    cases d'
   ·rw[e2] at e
    cases e
    have d':=d
    cases d'
 generalize jI K eM.heap A=H at hO bK hS hK sk;have PM:∀{b:ak}{o:eN},eM.heap.get? b=L o->H b=ah->(AI eM.heap H).get? b=L o:=λe n=>hidT_get e n;have Hd:∀{b:ak}{m:ax->aw aE},eM.heap.Ns b m->(AI eM.heap H).Ns b m:=λ{b m}⟨o,es,ep,e,d,r⟩=>⟨o,es,ep,PM e<|sk e d,d,r⟩;have nK:∀b o,K.lookup b=L o->H b=ah:=λb o e=>by
  cases q:H b with
  |none=>rfl
  |some u=>
   rw[hK b u q] at e
   cases e
 have QU:=λb o e=>PM (KX b o e)<|nK b o e;have hM:Mod K mg _:=⟨QU,Hd Q_,⟨mb,Hd hb,Z_⟩,let⟨mc,h1,h2⟩:=hlim;⟨mc,Hd h1,h2⟩⟩;have e0:sV P w K mg _ CQ [] eM H:=⟨J,hM,λb o e=>of_hidT e,B6<|hidT_size _ _,cg,λb hb=>absurd (show b∈[] from hb)<|by simp,bK,.of_eq hg⟩;have hl:vp.length=ps.length:=by rw[Ja Dq];exact dG
 refine yn ((F _ QU<|Hd Q_).run CQ [] eM H ⟨vp,[]⟩ vp (vp.map mG) _ _ hr e0 (hbind eM vp hl) hV<|iD H _ hO hS) λr s' x=>?_
 cases r with
 |error e=>exact(Dd H e s' x).elim
 |ok fl=>
  cases fl with
  |next=>exact g_ x
  |brk=>exact g_ x
  |cont=>exact g_ x
  |ret u=>
   obtain⟨v,H',os,eC,un,hok',r',q⟩:=x;have kept:=λb o e=>by
    cases q2:H b with
    |none=>exact un.keep b o e q2 (by intro z;exact absurd (show b∈[] from z)<|by simp)<|by simp
    |some u2=>
     rcases hO b with z|⟨ob,u3,z⟩
     ·rw[q2] at z
      cases z
     ·have z2:=un.lh b ob _ z
      obtain⟨e1,_⟩:=bK b _ z;obtain⟨e2,_⟩:=hok' b _ z2;rw[e] at e1
      cases e1
      exact e2
   have WX:=λb o e=>kept b o<|KX b o e;obtain⟨as,Rf⟩:=Dw.Bo hok' WX d0 v u q r';exact⟨u,as,J,Rf,OldK.of_keep kept,os,eC⟩
theorem layable_weight(h:WData.layableAll ds=ao):∀d∈ds,d.weight<=1048576:=λd hd=>
 (PySem.W.layableW_iff.mp<|List.all_eq_true.mp h d hd).2.2
theorem Qr:∀cs a,(E5 cs a).length=cs.length
 |[],_=>rfl
 |c::cs,a=>by
  show(E5 cs a.2).length+1=cs.length+1;rw[Qr cs a.2]
theorem walk_spec{K:Params->aq}{CX:World->og}{sp:World->Sp}
 (Lp:r.wellSaid=ao) (Q0:d.params.defaults=[]) (dG:r.args.length=ps.length) (hr:fg k CQ)
 (hY:∀w h,YP w h->(K w.params).In h)
 (F:∀w mg fa h,YP w h->(K w.params).In h->h.Ns d9 mg->mg d.name=L (.ref fa)-> ∃fd,(∀s us,us.length=ps.length->xD s fd ⟨us,[]⟩ (ps.zip us))/\ ∀base,(K w.params).In base->base.Ns d9 mg->aD r.prog w (K w.params) mg base (CX w) k fa fd ps (sp w))
 (iD:∀w H xs a,zV H->WH r.args a=ao->Jo r.args r.asked a=ao->o4 (K w.params) H xs (E5 r.args a)->sp w xs H (λv H'=>Dw (K w.params) H' v (r.ret.enc<|Jo r.args r.f a)) λ_ _ _=>eW)
 (Dd:∀w H s e s',CX w [] H s (λ_ _ _=>eW) e s'->eW):
 XH q loose XP YP r d [] λf vs=>XU f vs:=by
 intro w gF eM mg mb G Y fa o pm cd dR dV kV ho hd me hD hmg hg j4 vp as hpre hlay Rf Dq hlo;obtain⟨a,e1,e2⟩:=PySem.W.os_pre_some hpre;obtain⟨e3,hwi⟩:=Codec.encAll_of_decAll r.args j4 a e1;subst e3;have KX:=hY w _ Y;obtain⟨fd,hb,hF⟩:=F w mg fa _ Y KX G.T.g hmg
 refine PySem.W.enter_call (yn (spec_call (R:=[]) (cl:=classAt gF.heap) KX G.T.g G.T.b G.T.builtins G.T.nolimit hg Dq (TJ _ _) (layable_weight hlay) hr hF hb (by rw[Qr];exact dG)
  (λH xs hO hS=>iD w H xs a hO hwi e2 hS) λH e s'=>Dd w H eM e s') λr' s' hq=>?_)
 obtain⟨u,as',rfl,h1,h2,h3,h4⟩:=hq;exact⟨.inl ⟨u,_,as',J,λ_=>J,h1,(OpenSpec.post_iff Lp hwi _ _).mpr J,λz=>oY (show aK=ao from z)⟩,h2,h3,h4⟩
end L2
namespace BW
open PySem PySem.Spec PyProof.Rows L2
open Bw (bS cQ bf cn Gives eZ ij nZ iB gx kZ jJ jz hm lI lM nE n8)
def aN(i:af):dr:=PySem.Challenge.pw_bodieswing_s01_answers.main.body.getD i<|.Pass ⟨0,0,0,0⟩
def RI:bO ae:=λ_ v i=>v= .int i
def RB:bO c_:=λ_ v b=>v= .bl b
def RP(K:aq):bO<|ae×ae:=λH v p=>∃a,v= .ref a/\cD K H a [.int p.1,.int p.2]
theorem ia:cV RI:=λ_ _ _ _ _ h=>h
theorem Si:cV RB:=λ_ _ _ _ _ h=>h
theorem gJ{K:aq}:cV<|RP K:=λ_ _ _ _ s⟨a,e,h⟩=>⟨a,e,s.tup h⟩
def RN(K:aq)(k:aB):bO af:=λH v a=>∃p,RP K H v p/\cn k p a
def RC(K:aq)(k:aB):bO af:=λH v a=>RP K H v (bf k a)/\cQ k a
theorem eK{K:aq}:cV<|RN K k:=λ_ _ _ _ s⟨p,h,r⟩=>⟨p,gJ.up s h,r⟩
theorem aI{K:aq}:cV<|RC K k:=λ_ _ _ _ s⟨h,r⟩=>⟨gJ.up s h,r⟩
theorem dS{K:aq}(hk:bS k)(h:RC K k H v a):RN K k H v a:=⟨_,h.1,cn.bf hk h.2⟩
theorem uO{K:aq}{o:aw af}(g:Gives k r o)(h:bW C (RC K k) H o Q E):bW C (RP K) H r Q E:=⟨λH' v y s e q=>by
                                                                                         have e2:=g.1;rw[e] at e2
                                                                                         cases eo:o with
                                                                                         |none=>rw[eo] at e2;cases e2
                                                                                         |some x=>
                                                                                          rw[eo] at e2
                                                                                          cases e2
                                                                                          exact h.ok H' v x s eo ⟨q,g.2 x eo⟩,λH' s e=>h.no H' s (by
                                                                                         have e2:=g.1;rw[e] at e2
                                                                                         cases eo:o with
                                                                                         |none=>rfl
                                                                                         |some x=>rw[eo] at e2;cases e2)⟩
theorem _root_.L2.bW.wF(k:bW C RB H (L b) Q E)(e:b=c):Q (.bl c) H:=k.ok H _ b sr J (by rw[e];rfl)
theorem _root_.L2.bW.GK(k:bW C RI H (L b) Q E)(e:b=c):Q (.int c) H:=k.ok H _ b sr J (by rw[e];rfl)
def kf(k:aB):ag<|ax×V:=aY "lanes" (.int k.lanes)<|aY "sign_bit" (.int (k.frac+k.expo:af)) (aY "greatest" (.int<|Bw.aN k) (aY "least" (.int k.least)<|aY "digits" (.int (k.frac+1:af)) []))
def RK(CK:ak)(k:aB):bO j1:=λH v _=>bS k/\ ∃a dx,v= .ref a/\H a=L (.ins CK dx<|kf k)
theorem aM:cV<|RK CK k:=λ_ _ _ _ s⟨h,a,dx,e,q⟩=>⟨h,a,dx,e,s _ _ q⟩
theorem kf_no(k:aB){m:ax}(h1:¬m="sign_bit")(h2:¬m="greatest")(h3:¬m="least")(h4:¬m="digits")(h5:¬m="lanes"):(kf k).lookup m=ah:=by
 unfold kf;rw[dm,ay h5,dm,ay h1,dm,ay h2,dm,ay h3,dm,ay h4];rfl
theorem yK(k:aB):(kf k).lookup ("digits":ax)=L (.int (k.frac+1:af)):=by
 unfold kf;rw[dm,ay dk,dm,ay dk,dm,ay dk,dm,ay dk,dm,aH J]
theorem yL(k:aB):(kf k).lookup ("least":ax)=L (.int k.least):=by
 unfold kf;rw[dm,ay dk,dm,ay dk,dm,ay dk,dm,aH J]
theorem Dx(k:aB):(kf k).lookup ("greatest":ax)=L (.int<|Bw.aN k):=by
 unfold kf;rw[dm,ay dk,dm,ay dk,dm,aH J]
theorem Dy(k:aB):(kf k).lookup ("sign_bit":ax)=L (.int (k.frac+k.expo:af)):=by
 unfold kf;rw[dm,ay dk,dm,aH J]
theorem kf_lanes(k:aB):(kf k).lookup ("lanes":ax)=L (.int k.lanes):=by
 unfold kf;rw[dm,aH J]
structure i'(K:aq)(mg:ax->aw aE)(M CK:ak):Prop where
 rM:xF K M
 r_:mg "Failed"=L (.ref M)
 cl:jV K CK
 nd:iq K CK "digits"
 nl:iq K CK "least"
 ng:iq K CK "greatest"
 ns:iq K CK "sign_bit"
 Sx:iq K CK "lanes"
 R8:mg "Kind"=L (.ref CK)
 pz:∃a,mg "PLUS_ZERO"=L (.ref a)/\ ∀H,cD K H a [.int 0,.int 0]
 mz:∃a,mg "MINUS_ZERO"=L (.ref a)/\ ∀H,cD K H a [.int 0,.int 1]
 yg:mg "abs"=ah
 max:mg "max"=ah
abbrev qI:dr:=aN 6
abbrev zr:dr:=aN 7
abbrev MF:dr:=aN 8
abbrev qH:dr:=aN 9
abbrev HR:dr:=aN 10
abbrev MG:dr:=aN 11
abbrev MH:dr:=aN 12
abbrev sK(j:af):dr:=rX (aN 13) j
section
variable{P:cN}{w:World}{K:aq}{mg:ax->aw aE}{base:b9}{M CK:ak}
abbrev qL(K:aq)(M:ak):Sp:=c7 M (aQ (RP K) cq) RB λx=>L<|hm x.1
theorem UC:bE ["x"] ["x"]<|bw qI:=fs
theorem Hx(F:bz K "has_minus" "has_minus" qI f fd):aD P w K mg base gZ 1 f fd ["x"]<|qL K M:=by
 refine F.ok UC (λvs H Q E h=>?_) λcG A bC s H vs Q E hr h=>?_
 ·obtain⟨t,⟨v,r,rfl,_,rfl⟩,_⟩:=h
  rfl
 ·obtain⟨⟨p,_⟩,⟨v,r,rfl,⟨a,rfl,hp⟩,rfl⟩,k⟩:=h
  refine⟨_,aR (bg (Ml (ke lG (aX<|O 0) a_<|cT _) (sD (xf (ke iQ (aX<|O 0) a_<|cT _) (sD<|ke iQ (aX<|O 0) a_<|cT _))))),?_⟩;refine⟨_,J,a,_,_,_,J,J,hp,J,_,_,J,J,_,J,d4 (λc=>?_) λc=>?_⟩
  ·refine k.wF ?_
   exact dD (.inl<|dE c)
  ·refine⟨_,J,a,_,_,_,J,J,hp,J,_,_,J,J,_,J,d4 (λd=>?_) λd=>?_⟩
   ·refine⟨_,J,a,_,_,_,J,J,hp,J,_,_,J,J,k.wF ?_⟩
    have d:p.1=0:=dE d;show decide (p.1<0\/(p.1=0/\p.2=1))=decide (p.2=1);rw[Kr];omega
   ·refine k.wF ?_
    have c:¬p.1<0:=λz=>c<|dD z;have d:¬p.1=0:=λz=>d<|dD z;exact gW (by show¬(p.1<0\/(p.1=0/\p.2=1));omega)
abbrev qM(K:aq)(M:ak):Sp:=c7 M (aQ (RP K) cq) (RP K) λx=>L<|gx x.1
theorem scOpp:bE ["x"] ["x"]<|bw zr:=fs
theorem y_{f:ak}{fd:cX}(F:bz K "opposite" "opposite" zr f fd):aD P w K mg base gZ 1 f fd ["x"]<|qM K M:=by
 refine F.ok scOpp (λvs H Q E h=>?_) λcG A bC s H vs Q E hr h=>?_
 ·obtain⟨t,⟨v,r,rfl,_,rfl⟩,_⟩:=h
  rfl
 ·obtain⟨⟨p,_⟩,⟨v,r,rfl,⟨a,rfl,hp⟩,rfl⟩,k⟩:=h
  refine⟨_,aG (dU (dB iQ (aX<|O 0) a_<|cT _) (aR (bg<|fO (bJ a_<|bL ig a_ (aX<|O 0)))) d5)
   (aR (bg<|fO (bJ (xg xA (aX<|O 0)) (aX<|O 0)))),?_⟩
  refine⟨_,J,a,_,_,_,J,J,hp,J,_,_,J,J,_,J,d4 (λc=>?_) λc=>?_⟩
  ·have c:p.1=0:=dE c
   refine⟨_,J,a,_,_,_,J,J,hp,J,_,_,J,J,(by show 2<=bH;decide),λq hq=>k.ok _ _ _ (az.new hq) J ⟨q,J,cD.of ?_⟩⟩;rw[bp];unfold gx;rw[aH c]
  ·have c:¬p.1=0:=λz=>c<|dD z
   refine⟨_,J,a,_,_,_,J,J,hp,J,_,J,_,J,a,_,_,_,J,J,hp,J,(by show 2<=bH;decide),λq hq=>k.ok _ _ _ (az.new hq) J ⟨q,J,cD.of ?_⟩⟩;rw[bp];unfold gx;rw[ay c]
structure Gf(K:aq)(mg:ax->aw aE)(x:ax)(st:dr)(f:ak)(fd:cX)(ps:ag ax):Prop where
 F:bz K x x st f fd
 m:mg x=L (.ref f)
 b:Binds K fd ps []
section
variable{C:ak}{E:XK}{σ:L2.St}{H:Hp}{te tf:TE}{p q:ae×ae}
theorem sC(h:NT C E (RP K) (L p) σ H te):NT C E RB (L<|hm p) σ H (d8 (qL K C) [] E<|aU te b8):=cP (f:=λx=>L<|hm x.1)<|aF gJ h bQ
theorem yZ(h:NT C E (RP K) (L p) σ H te):NT C E (RP K) (L<|gx p) σ H (d8 (qM K C) [] E<|aU te b8):=cP (f:=λx=>L<|gx x.1)<|aF gJ h bQ
end
abbrev Bz(K:aq)(M:ak):Sp:=c7 M (aQ (RP K) cq) (RP K) λx=>L<|kZ x.1
theorem scBare:bE ["x"] ["x"]<|bw MF:=fs
theorem ok_bare(F:bz K "without_sign" "without_sign" MF f fd)(G1:Gf K mg "has_minus" qI f1 bZ ["x"])(G2:Gf K mg "opposite" zr f2 dg ["x"]):aD P w K mg base gZ 2 f fd ["x"]<|Bz K M:=by
 have O1:aD P w K mg base gZ 1 f1 bZ _<|qL K M:=Hx G1.F;have O2:aD P w K mg base gZ 1 f2 dg _<|qM K M:=y_ G2.F;refine F.ok scBare (λvs H Q E h=>?_) λcG A bC s H vs Q E hr h=>?_
 ·obtain⟨t,⟨v,r,rfl,_,rfl⟩,_⟩:=h
  rfl
 ·obtain⟨⟨p,_⟩,⟨v,r,rfl,⟨a,rfl,hp⟩,rfl⟩,k⟩:=h
  refine⟨_,aR<|bg (mw (iT<|cJ O1 hr J G1.m G1.F.kp G1.b .nil xc (bu<|O 0)) (cJ O2 hr J G2.m G2.F.kp G2.b .nil xc (bu<|O 0))<|O 0),?_⟩;have vx:NT M E0 _ _ [L _] H<|au 0:=aj J gJ ⟨a,J,hp⟩;refine(sC vx).go λv U s1 q=>?_;refine⟨hm p,q,d4 (λc=>?_) λc=>?_⟩
  ·refine(yZ<|vx.at_ s1).go λv2 H2 s2 q2=>k.ok _ _ _ (s1.trans s2) J ?_
   unfold kZ;rw[aH c];exact q2
  ·refine⟨_,J,k.ok _ _ _ s1 J ⟨a,J,?_⟩⟩
   unfold kZ;rw[ay c];exact s1.tup hp
def Sm(p:ae×ae):Prop:=p.1.natAbs<2^120/\ -3000<=p.2/\p.2<=3000
def xU(K:aq):bO<|ae×ae:=λH v p=>RP K H v p/\Sm p
theorem DK:cV<|xU K:=λ_ _ _ _ s⟨h,r⟩=>⟨gJ.up s h,r⟩
abbrev spBelow(K:aq)(M:ak):Sp:=c7 M (aQ (xU K)<|aQ (xU K) cq) RB λx=>L<|jJ x.1 x.2.1
theorem Ux:bE ["x","y","gap"] ["x","y"]<|bw qH:=fs
theorem GV(h:n<2^120):n<2^250:=gn h<|jY om om
theorem ok_below{f:ak}{fd:cX}(F:bz K "is_below" "is_below" qH f fd):aD P w K mg base gZ 1 f fd ["x","y"]<|spBelow K M:=by
 refine F.ok Ux (λvs H Q E h=>?_) λcG A bC s H vs Q E hr h=>?_
 ·obtain⟨t,⟨v,r,rfl,_,v2,r2,rfl,_,rfl⟩,_⟩:=h
  rfl
 ·obtain⟨⟨p,q,_⟩,⟨v,r,rfl,⟨⟨a,rfl,hp⟩,sp⟩,v2,r2,rfl,⟨⟨b,rfl,hq⟩,sq⟩,rfl⟩,k⟩:=h
  refine⟨_,aG (bA 2 Ux.nd (bL ig (aX<|O 0) (aX<|O 1)))
   (aG (dU (dB uF (O 2) a_<|cT _) (aR (bg (ke lG (bL lH (aX<|O 0)<|O 2) (aX<|O 1)<|cT _))) d5)
   (aR<|bg (ke lG (aX<|O 0) (bL lH (aX<|O 1) (xg xA<|O 2))<|cT _))),?_⟩
  have sp:Sm p:=sp;have sq:Sm q:=sq;unfold Sm at sp sq;refine⟨_,J,a,_,_,_,J,J,hp,J,_,J,b,_,_,_,J,J,hq,J,_,_,J,J,?_⟩;refine⟨_,J,_,_,J,J,_,J,d4 (λc=>?_) λc=>?_⟩
  ·have c:0<p.2-q.2:=dE c
   refine⟨_,J,a,_,_,_,J,J,hp,J,_,J,_,_,J,J,⟨?_,?_,GV sp.1⟩,_,J,b,_,_,_,J,J,hq,J,_,_,J,J,k.wF ?_⟩
   ·show 0<=p.2-q.2;omega
   ·show p.2-q.2<=100000;omega
   ·show jJ p q=_
    unfold jJ;rw[aH c]
  ·have c:¬0<p.2-q.2:=λz=>c<|dD z
   refine⟨_,J,a,_,_,_,J,J,hp,J,_,J,b,_,_,_,J,J,hq,J,_,J,_,J,_,_,J,J,⟨?_,?_,GV sq.1⟩,_,_,J,J,k.wF ?_⟩
   ·show 0<= -(p.2-q.2);omega
   ·show-(p.2-q.2)<=100000;omega
   ·show jJ p q=_
    unfold jJ;rw[ay c]
abbrev IA(K:aq)(M:ak):Sp:=c7 M (aQ (RP K)<|aQ (RP K) cq) (RP K) λx=>L<|jz x.1 x.2.1
theorem scJz:bE ["x","y"] ["x","y"]<|bw HR:=fs
theorem Me(F:bz K "joined_zero" "joined_zero" HR f fd)(T:i' K mg M CK)(G1:Gf K mg "has_minus" qI f1 bZ ["x"]):aD P w K mg base gZ 2 f fd ["x","y"]<|IA K M:=by
 have O1:aD P w K mg base gZ 1 f1 bZ ["x"]<|qL K M:=Hx G1.F;obtain⟨za,zm,zq⟩:=T.pz;obtain⟨ya,ym,yq⟩:=T.mz;refine F.ok scJz (λvs H Q E h=>?_) λcG A bC s H vs Q E hr h=>?_
 ·obtain⟨t,⟨v,r,rfl,_,v2,r2,rfl,_,rfl⟩,_⟩:=h
  rfl
 ·obtain⟨⟨p,q,_⟩,⟨v,r,rfl,⟨a,rfl,hp⟩,v2,r2,rfl,⟨b,rfl,hq⟩,rfl⟩,k⟩:=h
  refine⟨_,aR (bg<|mw (dB To (cJ O1 hr J G1.m G1.F.kp G1.b .nil xc (bu<|O 0)) (cJ O1 hr J G1.m G1.F.kp G1.b .nil xc (bu<|O 1))<|cT _) (dF J ym (v:=.ref ya) J)<|dF J zm (v:=.ref za) J),?_⟩;have vx:NT M E0 _ _ [L _,L<|.ref b] H<|au 0:=aj J gJ ⟨a,J,hp⟩;have vy:NT M E0 (RP K) _ [L<|.ref a,L _] H<|au 1:=aj J gJ ⟨b,J,hq⟩;refine(sC vx).go λv U s1 q1=>?_;refine(sC<|vy.at_ s1).go λv2 H2 s2 q2=>?_;refine⟨_,_,q1,q2,_,J,d4 (λc=>?_) λc=>?_⟩
  ·refine k.ok _ _ _ (s1.trans s2) J ⟨ya,J,?_⟩
   show cD K H2 ya [.int 0,.int (if(hm p !=hm q)=ao then 1 else 0)];rw[aH c];exact yq H2
  ·refine k.ok _ _ _ (s1.trans s2) J ⟨za,J,?_⟩
   show cD K H2 za [.int 0,.int (if(hm p !=hm q)=ao then 1 else 0)];rw[ay c];exact zq H2
def Cm(K:aq):bO<|ae×ae:=λH v p=>RP K H v p/\p.1.natAbs<2^64
theorem sf:cV<|Cm K:=λ_ _ _ _ s⟨h,r⟩=>⟨gJ.up s h,r⟩
abbrev Vh(K:aq)(M:ak):Sp:=c7 M (aQ (Cm K)<|aQ (Cm K) cq) (RP K) λx=>L<|iB x.1 x.2.1
theorem Uy:bE ["x","y","m"] ["x","y"]<|bw MG:=fs
theorem L'{C:ak}{E:XK}{H:Hp}(h:NT C E (RP K) (L p) σ H te)(h2:NT C E (RP K) (L q) σ H tf):NT C E (RP K) (L<|jz p q) σ H<|d8 (IA K C) [] E (aU te<|aU tf b8):=cP (f:=λx=>L<|jz x.1 x.2.1) (aF gJ h<|aF gJ h2 bQ)
theorem Hw(F:bz K "exact_product" "exact_product" MG f fd)(T:i' K mg M CK)(G1:Gf K mg "has_minus" qI f1 bZ ["x"])(G2:Gf K mg "joined_zero" HR f2 dg ["x","y"]):aD P w K mg base gZ 3 f fd ["x","y"]<|Vh K M:=by
 have O2:aD P w K mg base gZ 2 f2 dg ["x","y"]<|IA K M:=Me G2.F T G1;refine F.ok Uy (λvs H Q E h=>?_) λcG A bC s H vs Q E hr h=>?_
 ·obtain⟨t,⟨v,r,rfl,_,v2,r2,rfl,_,rfl⟩,_⟩:=h
  rfl
 ·obtain⟨⟨p,q,_⟩,⟨v,r,rfl,⟨⟨a,rfl,hp⟩,sp⟩,v2,r2,rfl,⟨⟨b,rfl,hq⟩,sq⟩,rfl⟩,k⟩:=h
  refine⟨_,aG (bA 2 Uy.nd (bL D8 (aX<|O 0) (aX<|O 1)))
   (aG (dU (dB iQ (O 2) a_<|cT _) (aR (bg<|cJ O2 hr J G2.m G2.F.kp G2.b .nil xc (bJ (O 0)<|O 1))) d5)
   (aR<|bg (fO<|bJ (O 2) (bL fu (aX<|O 0) (aX<|O 1))))),?_⟩
  have sp:p.1.natAbs<2^64:=sp;refine⟨_,J,a,_,_,_,J,J,hp,J,_,J,b,_,_,_,J,J,hq,J,_,_,J,J,.inl ⟨?_,?_⟩,?_⟩
  ·omega
  ·omega
  refine⟨_,J,_,_,J,J,_,J,d4 (λc=>?_) λc=>?_⟩
  ·have c:=dE c
   have vx:NT M E0 (RP K) (L p) [L<|.ref a,L<|.ref b,L (.int<|p.1*q.1)] H<|au 0:=aj J gJ ⟨a,J,hp⟩;have vy:NT M E0 (RP K) (L q) [L<|.ref a,L<|.ref b,L (.int<|p.1*q.1)] H<|au 1:=aj J gJ ⟨b,J,hq⟩;refine(L' vx vy).go λv U s1 q1=>k.ok _ _ _ s1 J ?_;unfold iB;rw[aH c];exact q1
  ·have c:=λz=>c<|dD z
   refine⟨_,J,_,J,a,_,_,_,J,J,hp,J,_,J,b,_,_,_,J,J,hq,J,_,_,J,J,(by show 2<=bH;decide),λl hl=>k.ok _ _ _ (az.new hl) J ⟨l,J,cD.of ?_⟩⟩;rw[bp];unfold iB;rw[ay c]
end
end BW
namespace BW
open PySem PySem.Spec PyProof.Rows L2
open Bw (bS cQ bf cn Gives eZ ij nZ iB gx kZ jJ jz hm lI lM nE n8 fK cY)
theorem vZ(i:ae):kh i=fK i:=by
 unfold kh fK;by_cases h:i=0
 ·rw[aH<|by simp[h],aH h]
 ·rw[ay<|by simpa using h,ay h]
def J0:bO ae:=λ_ v i=>v= .int i/\fK i<=8000
def Fx:bO ae:=λ_ v i=>v= .int i/\ -9000<=i/\i<=9000
theorem DJ:cV J0:=λ_ _ _ _ _ h=>h
theorem LM:cV Fx:=λ_ _ _ _ _ h=>h
section
variable{P:cN}{w:World}{K:aq}{mg:ax->aw aE}{base:b9}{M CK:ak}
theorem Dz(hk:bS k):24<=((k.frac+1:af):ae)/\((k.frac+1:af):ae)<=53/\ -1074<=k.least/\k.least<= -149/\Bw.aN k<=971/\104<=Bw.aN k:=by rcases hk with rfl|rfl<;>decide
theorem join_set{c:TT}(b:c_)(x y:ae)(hc:∀Q,Q b H->c σ H Q)(ht:b=ao-> ∀Q,Q (.int x) H->te σ H Q)(hy:b=aK->σ.set i (L<|.int y)=σ)
 (h:u D (σ.set i (L<|.int (if b=ao then x else y))) H):oS (zE c (jU te<|eE i) IT) u D σ H:=by
 refine hc _ ?_
 cases b with
 |true=>
  exact ht J _ h
 |false=>
  rw[ay dc,hy J] at h;exact h
theorem MD(kk:bW M (RP K) H r Q E)(e:r=if Bw.aN k<q then ah else L (kept,q)):(Bw.aN k<q->E (.ref M) ah H)/\(¬Bw.aN k<q-> ∀p,H p=ah->Q (.ref p) (aC H p<|.tup [.int kept,.int q])):=by
 refine⟨λc=>kk.no H (az.refl H)<|by rw[e,aH c],λc p hp=>kk.ok _ _ (kept,q) (az.new hp) (by rw[e,ay c]) ⟨p,J,cD.of bp⟩⟩
abbrev uZ(K:aq)(M CK:ak)(k:aB):Sp:=c7 M (aQ (RK CK k) (aQ J0<|aQ Fx cq)) (RP K) λx=>eZ k x.2.1 x.2.2.1
theorem zw:bE ["self","m","e","shift","kept"] ["self","m","e"] (bw<|sK 4):=fs
theorem D5{f:ak}{fd:cX}(F:bz K "rounded" "Kind.rounded" (sK 4) f fd)(T:i' K mg M CK)(k:aB):aD P w K mg base (aO P w M) 1 f fd ["self","m","e"]<|uZ K M CK k:=by
 obtain⟨za,zm,zq⟩:=T.pz;obtain⟨ya,ym,yq⟩:=T.mz;refine F.oc zw λH Q E hr h=>?_;obtain⟨⟨_,m,e,_⟩,⟨v,r,rfl,⟨hk,a,dx,rfl,ha⟩,v2,r2,rfl,⟨rfl,bm⟩,v3,r3,rfl,⟨rfl,be⟩,rfl⟩,kk⟩:=h
 refine⟨_,aG (bA 3 zw.nd (bL ig (Ea<|O 1) (bh<|O 0)))
  (aG (dU (dB lG (bL fu (O 2)<|O 3) (bh<|O 0)<|cT _) (aR (bA 3 zw.nd<|bL ig (bh<|O 0)<|O 2)) d5)
  (aG (dU (dB uF (O 3) a_<|cT _)
    (aG (bA 4 zw.nd (bL Mh (bL fu (bL ig (bL fu (O 1) (bL lH a_<|bL ig (O 3) a_)) a_)<|bL op_and1 (bL Mh (O 1)<|O 3) a_)<|O 3))
    (aG (dU (dB iQ (O 4) a_<|cT _) (aR (bg (mw (dB lG (O 1) a_<|cT _) (dF J ym (v:=.ref ya) J)<|dF J zm (v:=.ref za) J))) d5)
    (aR (dU (dB uF (Ea<|O 4) (bh<|O 0)<|cT _) (aG (TQ (i:=4) zw.nd J (Cb J) a_ iop_shr) (aR<|TQ (i:=3) zw.nd J (Cb J) a_ Lr)) d5))))
    (aR (bA 4 zw.nd<|bL lH (O 1) (xg xA<|O 3))))
  (aG (dU (dB uF (bL fu (O 2)<|O 3) (bh<|O 0)<|cT _) (aR<|HE J T.rM HH J T.r_) d5)
  (aR<|bg (fO<|bJ (O 4) (bL fu (O 2)<|O 3)))))),?_⟩
 have kb:=Dz hk;refine⟨_,J,_,J,_,J,a,CK,dx,_,_,J,ha,T.cl,T.nd,yK k,_,_,J,J,?_⟩;have kk:bW M (RP K) H (eZ k m e) Q E:=kk;have bm:fK m<=8000:=bm;have be: -9000<=e/\e<=9000:=be;dsimp only[eE];refine join_set (i:=3) (decide (e+((fK m:ae)-((k.frac+1:af):ae))<k.least)) (k.least-e) ((fK m:ae)-((k.frac+1:af):ae)) (λQ q=>?_) (λ_ Q q=>?_) (λ_=>?_) ?_
 ·refine⟨_,J,_,J,_,_,J,J,_,J,a,CK,dx,_,_,J,ha,T.cl,T.nl,yL k,_,_,J,J,_,J,?_⟩
  rw[vZ];exact q
 ·exact⟨_,J,a,CK,dx,_,_,J,ha,T.cl,T.nl,yL k,_,J,_,_,J,J,q⟩
 ·show [L<|V.ref a,L<|V.int m,L<|V.int e,L (V.int<|(fK m:ae)-((k.frac+1:af):ae)),ah]=[L<|V.ref a,L<|V.int m,L<|V.int e,L (V.int<|(kh m:ae)-((k.frac+1:af):ae)),ah]
  rw[vZ]
 have ec:(if decide (e+((fK m:ae)-((k.frac+1:af):ae))<k.least)=ao then k.least-e else(fK m:ae)-((k.frac+1:af):ae))=cY k m e:=by
  unfold cY;by_cases c:e+((fK m:ae)-((k.frac+1:af):ae))<k.least
  ·rw[aH c,aH<|dD c]
  ·rw[ay c,ay λz=>c<|dE z]
 have bc:cY k m e<=50000/\ -50000<=cY k m e/\(cY k m e<=0->fK m<=53):=by
  unfold cY
  split<;>omega
 rw[ec];refine⟨_,J,_,_,J,J,_,J,d4 (λc=>?_) λc=>?_⟩
 ·have c:0<cY k m e:=dE c
  have c1:(cY k m e-1).toNat=(cY k m e-1).toNat:=J;refine⟨_,J,_,J,_,_,J,J,_,_,J,J,⟨?_,?_,?_⟩,_,_,J,J,_,_,J,J,_,J,_,J,_,_,J,J,?_,_,J,J,_,_,J,J,_,J,_,_,J,J,?_,?_⟩
  ·show 0<=cY k m e-1;omega
  ·show cY k m e-1<=100000;omega
  ·show(1:ae).natAbs<2^250
   exact Nat.one_lt_two_pow om
  ·show 0<=cY k m e;omega
  ·show 0<=cY k m e;omega
  have er:eZ k m e=(let kept:=(m+2^(cY k m e-1).toNat-1+(m/2^(cY k m e).toNat)%2)/2^(cY k m e).toNat
   if kept=0 then L (0,if m<0 then 1 else 0)
   else if k.frac+1<fK kept then(if Bw.aN k<e+(cY k m e+1) then ah else L (kept/2,e+(cY k m e+1)))
   else(if Bw.aN k<e+cY k m e then ah else L (kept,e+cY k m e))):=by
   unfold eZ;rw[aH c]
  have en:(m+1*2^(cY k m e-1).toNat-1+(m/2^(cY k m e).toNat)%2)/2^(cY k m e).toNat=(m+2^(cY k m e-1).toNat-1+(m/2^(cY k m e).toNat)%2)/2^(cY k m e).toNat:=by rw[zM]
  simp only at er;show oS _ _ _ [L<|V.ref a,L<|V.int m,L<|V.int e,L (V.int<|cY k m e),L<|V.int _] H;rw[en];generalize(m+2^(cY k m e-1).toNat-1+(m/2^(cY k m e).toNat)%2)/2^(cY k m e).toNat=n at*;refine⟨_,J,_,_,J,J,_,J,d4 (λc2=>?_) λc2=>?_⟩
  ·have c2:n=0:=dE c2
   rw[aH c2] at er;refine⟨_,J,_,_,J,J,_,J,d4 (λc3=>?_) λc3=>?_⟩
   ·have c3:m<0:=dE c3
    rw[aH c3] at er;exact kk.ok H _ _ (az.refl H) er ⟨ya,J,yq H⟩
   ·have c3:¬m<0:=λz=>c3<|dD z
    rw[ay c3] at er;exact kk.ok H _ _ (az.refl H) er ⟨za,J,zq H⟩
  ·have c2:¬n=0:=λz=>c2<|dD z
   rw[ay c2] at er;refine⟨_,J,_,J,_,J,a,CK,dx,_,_,J,ha,T.cl,T.nd,yK k,_,_,J,J,_,J,d4 (λc3=>?_) λc3=>?_⟩
   ·have c3:((k.frac+1:af):ae)<(kh n:ae):=dE c3
    rw[vZ] at c3;rw[aH om] at er;obtain⟨z1,z2⟩:=MD kk er;refine⟨_,J,_,_,J,J,(by show(0:ae)<=1;decide),_,J,_,_,J,J,_,J,_,J,_,_,J,J,_,J,a,CK,dx,_,_,J,ha,T.cl,T.ng,Dx k,_,_,J,J,_,J,d4 (λc4=>z1<|dE c4) λc4=>?_⟩;exact⟨_,J,_,J,_,J,_,_,J,J,(by show 2<=bH;decide),z2 λz=>c4<|dD z⟩
   ·have c3:¬((k.frac+1:af):ae)<(kh n:ae):=λz=>c3<|dD z
    rw[vZ] at c3;rw[ay om] at er;obtain⟨z1,z2⟩:=MD kk er;refine⟨_,J,_,J,_,_,J,J,_,J,a,CK,dx,_,_,J,ha,T.cl,T.ng,Dx k,_,_,J,J,_,J,d4 (λc4=>z1<|dE c4) λc4=>?_⟩;exact⟨_,J,_,J,_,J,_,_,J,J,(by show 2<=bH;decide),z2 λz=>c4<|dD z⟩
 ·have c:¬0<cY k m e:=λz=>c<|dD z
  have er:eZ k m e=if Bw.aN k<e+cY k m e then ah else L (m*2^(-(cY k m e)).toNat,e+cY k m e):=by
   unfold eZ;rw[ay c]
  obtain⟨z1,z2⟩:=MD kk er;refine⟨_,J,_,J,_,J,_,_,J,J,⟨?_,?_,?_⟩,?_⟩
  ·show 0<= -(cY k m e);omega
  ·show-(cY k m e)<=100000;omega
  ·show m.natAbs<2^250
   have YF:=bc.2.2 om;by_cases z:m=0
   ·rw[z];exact Ca _
   ·rw[Bw.Am z] at YF
    exact gn Bw.log2_lt<|jY om om
  refine⟨_,J,_,J,_,_,J,J,_,J,a,CK,dx,_,_,J,ha,T.cl,T.ng,Dx k,_,_,J,J,_,J,d4 (λc4=>z1<|dE c4) λc4=>?_⟩;exact⟨_,J,_,J,_,J,_,_,J,J,(by show 2<=bH;decide),z2 λz=>c4<|dD z⟩
end
end BW
namespace BW
open PySem PySem.Spec PyProof.Rows L2
open Bw (bS cQ bf cn Gives eZ ij nZ iB gx kZ jJ jz hm lI lM nE n8 fK cY)
structure Gm(K:aq)(C:ak)(x di:ax)(st:dr)(f:ak)(fd:cX)(ps:ag ax):Prop where
 F:bz K x di st f fd
 aJ:o_ K C x f
 b:Binds K fd ps []
theorem yk(h:i.natAbs<2^n):fK i<=n:=by rw[<-vZ];exact FN h
theorem uP{m:ax}(h1:¬m="sign_bit")(h2:¬m="greatest")(h3:¬m="least")(h4:¬m="digits")(h5:¬m="lanes")(h:RK CK k H v u):∃a dx fs,v= .ref a/\H a=L (.ins CK dx fs)/\fs.lookup m=ah:=by
 obtain⟨_,a,dx,e,q⟩:=h;exact⟨a,dx,_,e,q,kf_no k h1 h2 h3 h4 h5⟩
section
variable{P:cN}{w:World}{K:aq}{mg:ax->aw aE}{base:b9}{M CK:ak}
section
variable{E:XK}{σ:L2.St}{H:Hp}{te t1 t2 t3:TE}{k:aB}
theorem Bc(h0:NT M E (RK CK k) (L ()) σ H te)(h1:NT M E J0 (L m) σ H t1)(h2:NT M E Fx (L e) σ H t2):NT M E (RP K) (eZ k m e) σ H<|eu CK "rounded" (uZ K M CK k) [] E te (aU t1<|aU t2 b8):=oF (f:=λx=>eZ k x.2.1 x.2.2.1) h0 aM (λ_ _=>uP dk dk dk dk dk) (aF DJ h1<|aF LM h2 bQ)
end
abbrev Vm(K:aq)(M CK:ak)(k:aB):Sp:=c7 M (aQ (RK CK k) (aQ (xU K)<|aQ (xU K) cq)) (RP K) λx=>ij k x.2.1 x.2.2.1
theorem Br:bE ["self","x","y","gap","m","e"] ["self","x","y"] (bw<|sK 5):=fs
theorem U1(hi:i.natAbs<2^120)(hj:j.natAbs<2^120)(hg:g<=6000):fK (i*2^g+j)<=8000:=by
 refine dJ (yk (n:=120+g+1) ?_) om;have h1:(i*2^g).natAbs<2^(120+g):=by
  rw[E_,Jx,jm];exact B9 hi<|Ca g
 have h2:j.natAbs<2^(120+g):=gn hj<|jY om om;omega
theorem Be{f f1 f2:ak}{fd bZ dg:cX}(F:bz K "plus" "Kind.plus" (sK 5) f fd)(T:i' K mg M CK)(G1:Gf K mg "has_minus" qI f1 bZ ["x"])(G2:Gm K CK "rounded" "Kind.rounded" (sK 4) f2 dg ["self","m","e"])(k:aB):aD P w K mg base (aO P w M) 2 f fd ["self","x","y"]<|Vm K M CK k:=by
 have O1:aD P w K mg base (aO P w M) 1 f1 bZ ["x"]<|qL K M:=(Hx G1.F).gr;have O2:aD P w K mg base (aO P w M) 1 f2 dg ["self","m","e"]<|uZ K M CK k:=D5 G2.F T k;obtain⟨za,zm,zq⟩:=T.pz;obtain⟨ya,ym,yq⟩:=T.mz;refine F.oc Br λH Q E hr h=>?_;obtain⟨⟨_,p,q,_⟩,⟨v,r,rfl,⟨hk,c,dx,rfl,hc⟩,v2,r2,rfl,⟨⟨a,rfl,hp⟩,sp⟩,v3,r3,rfl,⟨⟨b,rfl,hq⟩,sq⟩,rfl⟩,kk⟩:=h
 refine⟨_,aG (bA 3 Br.nd (bL ig (aX<|O 1) (aX<|O 2)))
  (aG (dU (dB uF (O 3) a_<|cT _)
    (aG (bA 4 Br.nd (bL fu (bL lH (aX<|O 1)<|O 3) (aX<|O 2))) (aR<|bA 5 Br.nd (aX<|O 2)))
    (aG (bA 4 Br.nd (bL fu (aX<|O 1) (bL lH (aX<|O 2) (xg xA<|O 3)))) (aR<|bA 5 Br.nd (aX<|O 1))))
  (aG (dU (dB iQ (O 4) a_<|cT _) (aR<|bg (mw (PW.pt (pw_and (iT<|cJ O1 hr J G1.m G1.F.kp G1.b .nil aA (bu<|O 1))<|pw_and1 (iT<|cJ O1 hr J G1.m G1.F.kp G1.b .nil aA (bu<|O 2)))) (dF J ym (v:=.ref ya) J)<|dF J zm (v:=.ref za) J)) d5)
  (aR (bg<|bV (O 0) T.cl G2.aJ O2 hr G2.b .nil aA (bJ (O 4)<|O 5))))),?_⟩
 have sp:Sm p:=sp;have sq:Sm q:=sq;have kk:bW M (RP K) H (ij k p q) Q E:=kk;unfold Sm at sp sq;have dj:∀(m e g:ae)(r:aw<|ae×ae),r=ij k p q->r=(if m=0 then L (0,if(hm p&&hm q)=ao then 1 else 0) else eZ k m e)->fK m<=8000-> -9000<=e/\e<=9000->(m=0-> ∀U,az H U->if(hm p&&hm q)=ao then Q (.ref ya) U else Q (.ref za) U)/\(¬m=0->bW M (RP K) H (eZ k m e) Q E):=λm e g r e1 e2 _ _=>by
  rw[<-e1,e2] at kk;constructor
  ·intro z U s1
   rw[aH z] at kk;refine d4 (λc=>?_) λc=>?_
   ·rw[aH c] at kk
    exact kk.ok U _ _ s1 J ⟨ya,J,yq U⟩
   ·rw[ay c] at kk
    exact kk.ok U _ _ s1 J ⟨za,J,zq U⟩
  ·intro z
   rw[ay z] at kk;exact kk
 refine⟨_,J,a,_,_,_,J,J,hp,J,_,J,b,_,_,_,J,J,hq,J,_,_,J,J,?_⟩;refine⟨_,J,_,_,J,J,_,J,d4 (λcc=>?_) λcc=>?_⟩
 ·have cc:0<p.2-q.2:=dE cc
  refine⟨_,J,a,_,_,_,J,J,hp,J,_,J,_,_,J,J,⟨?_,?_,GV sp.1⟩,_,J,b,_,_,_,J,J,hq,J,_,_,J,J,?_⟩
  ·show 0<=p.2-q.2;omega
  ·show p.2-q.2<=100000;omega
  refine⟨_,J,b,_,_,_,J,J,hq,J,?_⟩;have bl:fK (p.1*2^(p.2-q.2).toNat+q.1)<=8000:=U1 sp.1 sq.1 om;obtain⟨f1,f2⟩:=dj (p.1*2^(p.2-q.2).toNat+q.1) q.2 0 _ J (by unfold ij;rw[aH cc]) bl om;refine⟨_,J,_,_,J,J,_,J,d4 (λc2=>?_) λc2=>?_⟩
  ·have vx:NT M E (RP K) (L p) [L<|.ref c,L<|.ref a,L<|.ref b,L (.int<|p.2-q.2),L (.int<|p.1*2^(p.2-q.2).toNat+q.1),L<|.int q.2] H<|au 1:=aj J gJ ⟨a,J,hp⟩
   have vy:NT M E (RP K) (L q) [L<|.ref c,L<|.ref a,L<|.ref b,L (.int<|p.2-q.2),L (.int<|p.1*2^(p.2-q.2).toNat+q.1),L<|.int q.2] H<|au 2:=aj J gJ ⟨b,J,hq⟩;refine(sC vx).go λv U s1 q1=>?_;refine⟨hm p,q1,?_⟩
   cases e1:hm p with
   |false=>
    rw[ay dc];have:=f1 (dE c2) U s1;rw[e1] at this;exact this
   |true=>
    rw[aH J];refine(sC<|vy.at_ s1).go λv2 H2 s2 q2=>?_;refine⟨hm q,q2,?_⟩;have:=f1 (dE c2) H2<|s1.trans s2;rw[e1,Wz] at this;exact this
  ·exact(f2 λz=>c2<|dD z).by (Bc (aj J aM ⟨hk,c,dx,J,hc⟩) (aj J DJ ⟨J,bl⟩)<|aj J LM ⟨J,om⟩)
 ·have cc:¬0<p.2-q.2:=λz=>cc<|dD z
  refine⟨_,J,a,_,_,_,J,J,hp,J,_,J,b,_,_,_,J,J,hq,J,_,J,_,J,_,_,J,J,⟨?_,?_,GV sq.1⟩,_,_,J,J,?_⟩
  ·show 0<= -(p.2-q.2);omega
  ·show-(p.2-q.2)<=100000;omega
  refine⟨_,J,a,_,_,_,J,J,hp,J,?_⟩;have bl:fK (p.1+q.1*2^(-(p.2-q.2)).toNat)<=8000:=by rw[Oh];exact U1 sq.1 sp.1 om
  obtain⟨f1,f2⟩:=dj (p.1+q.1*2^(-(p.2-q.2)).toNat) p.2 0 _ J (by unfold ij;rw[ay cc]) bl om;refine⟨_,J,_,_,J,J,_,J,d4 (λc2=>?_) λc2=>?_⟩
  ·have vx:NT M E (RP K) (L p) [L<|.ref c,L<|.ref a,L<|.ref b,L (.int<|p.2-q.2),L (.int<|p.1+q.1*2^(-(p.2-q.2)).toNat),L<|.int p.2] H<|au 1:=aj J gJ ⟨a,J,hp⟩
   have vy:NT M E (RP K) (L q) [L<|.ref c,L<|.ref a,L<|.ref b,L (.int<|p.2-q.2),L (.int<|p.1+q.1*2^(-(p.2-q.2)).toNat),L<|.int p.2] H<|au 2:=aj J gJ ⟨b,J,hq⟩;refine(sC vx).go λv U s1 q1=>?_;refine⟨hm p,q1,?_⟩
   cases e1:hm p with
   |false=>
    rw[ay dc];have:=f1 (dE c2) U s1;rw[e1] at this;exact this
   |true=>
    rw[aH J];refine(sC<|vy.at_ s1).go λv2 H2 s2 q2=>?_;refine⟨hm q,q2,?_⟩;have:=f1 (dE c2) H2<|s1.trans s2;rw[e1,Wz] at this;exact this
  ·exact(f2 λz=>c2<|dD z).by (Bc (aj J aM ⟨hk,c,dx,J,hc⟩) (aj J DJ ⟨J,bl⟩)<|aj J LM ⟨J,om⟩)
end
end BW
namespace BW
open PySem PySem.Spec PyProof.Rows L2
open Bw (bS cQ bf cn Gives eZ ij nZ iB gx kZ jJ jz hm lI lM nE n8 fK cY)
theorem _root_.L2.NT.sN{R R':bO α}(h:NT C E R (L y) σ H te)(w:∀H v,R H v y->R' H v y):NT C E R' (L y) σ H te:=λU Q s k=>
 h U Q s ⟨λH' v z s' e q=>by cases e;exact k.ok H' v y s' J<|w _ _ q,λ_ _ e=>nomatch e⟩
def Sn(p:ae×ae):Prop:=p.1.natAbs<2^120/\ -2500<=p.2/\p.2<=2500
theorem Sn.sm(h:Sn p):Sm p:=⟨h.1,by have:=h.2;omega,by have:=h.2;omega⟩
theorem Ir(r:cn k p a):Sn p:=⟨gn r.small.1<|jY om om,by have:=r.small;omega,by have:=r.small;omega⟩
theorem zA(r:cn k p a):Sm p:=(Ir r).sm
theorem EC(h:Sn p):Sm<|gx p:=by
 have h2:=h.2;have h1:=h.1;unfold gx
 split
 ·exact⟨by show(0:ae).natAbs<2^120;decide,by omega,by omega⟩
 ·exact⟨by omega,by omega,by omega⟩
theorem Nf(r:cn k p a)(t:cn k q b):Sn<|iB p q:=by
 have h1:=r.small;have h2:=t.small;unfold iB
 split
 ·unfold jz Sn
  refine⟨by show(0:ae).natAbs<2^120;decide,?_,?_⟩<;>dsimp only<;>split<;>omega
 ·refine⟨?_,by omega,by omega⟩
  rw[E_]
  calc p.1.natAbs*q.1.natAbs<2^53*2^53:=OL h1.1 h2.1
   _<=2^120:=by decide
theorem U9(r:cn k p a)(t:cn k q b):Sm<|iB p q:=(Nf r t).sm
section
variable{P:cN}{w:World}{K:aq}{mg:ax->aw aE}{base:b9}{M CK:ak}
abbrev qJ(K:aq)(M CK:ak)(k:aB)(g:af->af->aw af):Sp:=c7 M (aQ (RK CK k) (aQ (RN K k)<|aQ (RN K k) cq)) (RC K k) λx=>g x.2.1 x.2.2.1
abbrev p9(K:aq)(M CK:ak)(k:aB)(g:af->af->af->aw af):Sp:=c7 M (aQ (RK CK k)<|aQ (RN K k) (aQ (RN K k)<|aQ (RN K k) cq)) (RC K k) λx=>g x.2.1 x.2.2.1 x.2.2.2.1
theorem ok_plusN(F:bz K "plus" "Kind.plus" (sK 5) f fd)(T:i' K mg M CK)(G1:Gf K mg "has_minus" qI f1 bZ ["x"])(G2:Gm K CK "rounded" "Kind.rounded" (sK 4) f2 dg ["self","m","e"])(k:aB):aD P w K mg base (aO P w M) 2 f fd ["self","x","y"] (qJ K M CK k<|eU k):=by
 refine(Be F T G1 G2 k).imp λvs H Q E h=>?_;obtain⟨⟨_,a,b,_⟩,⟨v,r,rfl,hk,v2,r2,rfl,⟨p,hp,rp⟩,v3,r3,rfl,⟨q,hq,rq⟩,rfl⟩,kk⟩:=h;exact⟨((),p,q,()),⟨v,_,J,hk,v2,_,J,⟨hp,zA rp⟩,v3,_,J,⟨hq,zA rq⟩,J⟩,uO (Bw.Ub hk.1 rp rq) kk⟩
section
variable{E:XK}{σ:L2.St}{H:Hp}{te t1 t2 t3:TE}{k:aB}{p q:ae×ae}{a b c:af}
theorem D3(h0:NT M E (RK CK k) (L ()) σ H te)(h1:NT M E (xU K) (L p) σ H t1)(h2:NT M E (xU K) (L q) σ H t2):NT M E (RP K) (ij k p q) σ H<|eu CK "plus" (Vm K M CK k) [] E te (aU t1<|aU t2 b8):=oF (f:=λx=>ij k x.2.1 x.2.2.1) h0 aM (λ_ _=>uP dk dk dk dk dk) (aF DK h1<|aF DK h2 bQ)
theorem Hj(h1:NT M E (Cm K) (L p) σ H t1)(h2:NT M E (Cm K) (L q) σ H t2):NT M E (RP K) (L<|iB p q) σ H<|d8 (Vh K M) [] E (aU t1<|aU t2 b8):=cP (f:=λx=>L<|iB x.1 x.2.1) (aF sf h1<|aF sf h2 bQ)
end
structure GN(K:aq)(mg:ax->aw aE)(M CK:ak):Prop where
 T:i' K mg M CK
 hm:∃f fd,Gf K mg "has_minus" qI f fd ["x"]
 op:∃f fd,Gf K mg "opposite" zr f fd ["x"]
 jz:∃f fd,Gf K mg "joined_zero" HR f fd ["x","y"]
 ex:∃f fd,Gf K mg "exact_product" MG f fd ["x","y"]
 rd:∃f fd,Gm K CK "rounded" "Kind.rounded" (sK 4) f fd ["self","m","e"]
 pl:∃f fd,Gm K CK "plus" "Kind.plus" (sK 5) f fd ["self","x","y"]
theorem scMinus:bE ["self","x","y"] ["self","x","y"] (bw<|sK 6):=fs
theorem ok_minus(F:bz K "minus" "Kind.minus" (sK 6) f fd)(G:GN K mg M CK)(k:aB):aD P w K mg base (aO P w M) 3 f fd ["self","x","y"] (qJ K M CK k<|Cr k):=by
 obtain⟨T,⟨f1,bZ,G1⟩,⟨f2,dg,G2⟩,_,_,⟨f3,fh,G3⟩,f4,hU,G4⟩:=G;have O2:aD P w K mg base (aO P w M) 2 f2 dg _<|qM K M:=(y_ G2.F).gr.aV dc;have O4:aD P w K mg base _ 2 f4 hU _ _:=Be G4.F T G1 G3 k;refine F.oc scMinus λH Q E hr h=>?_;obtain⟨⟨_,a,b,_⟩,⟨v,r,rfl,hk,v2,r2,rfl,⟨p,hp,rp⟩,v3,r3,rfl,⟨q,hq,rq⟩,rfl⟩,kk⟩:=h;refine⟨_,aR (bg<|bV (O 0) T.cl G4.aJ O4 hr G4.b .nil aA (bJ (O 1)<|cJ O2 hr J G2.m G2.F.kp G2.b .nil aA (bu<|O 2))),?_⟩;exact(uO (Bw.rep_sub hk.1 rp rq) kk).by (D3 (aj J aM hk) (aj J DK ⟨hp,zA rp⟩) ((yZ<|aj J gJ hq).sN λ_ _ z=>⟨z,EC<|Ir rq⟩))
theorem UH:bE ["self","x","y","m"] ["self","x","y"] (bw<|sK 7):=fs
theorem ok_times(F:bz K "times" "Kind.times" (sK 7) f fd)(G:GN K mg M CK)(k:aB):aD P w K mg base (aO P w M) 3 f fd ["self","x","y"] (qJ K M CK k<|ir k):=by
 obtain⟨T,⟨f1,bZ,G1⟩,_,⟨f2,dg,G2⟩,_,⟨f3,fh,G3⟩,_⟩:=G;have O2:aD P w K mg base (aO P w M) 2 f2 dg ["x","y"] _:=(Me G2.F T G1).gr;have O3:aD P w K mg base _ 2 f3 fh _ _:=(D5 G3.F T k).aV dc;refine F.oc UH λH Q E hr h=>?_;obtain⟨⟨_,x,y,_⟩,⟨v,r,rfl,hk,v2,r2,rfl,⟨p,⟨a,rfl,hp⟩,rp⟩,v3,r3,rfl,⟨q,⟨b,rfl,hq⟩,rq⟩,rfl⟩,kk⟩:=h
 refine⟨_,aG (bA 3 UH.nd (bL D8 (aX<|O 1) (aX<|O 2)))
  (aG (dU (dB iQ (O 3) a_<|cT _) (aR (bg<|cJ O2 hr J G2.m G2.F.kp G2.b .nil aA (bJ (O 1)<|O 2))) d5)
  (aR<|bg (bV (O 0) T.cl G3.aJ O3 hr G3.b .nil aA<|bJ (O 3) (bL fu (aX<|O 1) (aX<|O 2))))),?_⟩
 have kk:=uO (Bw.rep_mul hk.1 rp rq) kk;have h1:=rp.small;have h2:=rq.small;refine⟨_,J,a,_,_,_,J,J,hp,J,_,J,b,_,_,_,J,J,hq,J,_,_,J,J,.inl ⟨?_,?_⟩,?_⟩
 ·omega
 ·omega
 refine⟨_,J,_,_,J,J,_,J,d4 (λc=>?_) λc=>?_⟩
 ·have c:=dE c
  unfold nZ at kk;rw[aH c] at kk;exact kk.by (L' (aj J gJ ⟨a,J,hp⟩)<|aj J gJ ⟨b,J,hq⟩)
 ·have c:=λz=>c<|dD z
  unfold nZ at kk;rw[ay c] at kk
  have bl:fK (p.1*q.1)<=8000:=dJ (yk (by
   rw[E_]
   calc p.1.natAbs*q.1.natAbs<2^53*2^53:=OL h1.1 h2.1
    _=2^106:=by decide)) dc
  have ne:NT M E Fx _ [L v,L<|.ref a,L<|.ref b,L (.int<|p.1*q.1)] H<|bY (gy λi j=>.int<|i+j) (bY (dI K) (au 1) (tC<|.int 1))<|bY (dI K) (au 2) (tC<|.int 1):=λU Q1 s1 k1=>
   ⟨_,J,a,_,_,_,J,J,s1.tup hp,J,_,J,b,_,_,_,J,J,s1.tup hq,J,_,_,J,J,k1.ok U _ _ sr J ⟨J,by omega⟩⟩
  exact kk.by<|Bc (aj J aM hk) (aj J DJ ⟨J,bl⟩) ne
theorem HU(j:af)(hj:j=10\/j=11\/j=12\/j=13):bE ["self","x","y","z"] ["self","x","y","z"] (bw<|sK j):=by
 rcases hj with rfl|rfl|rfl|rfl<;>exact fs
theorem xj(r:cn k p a):p.1.natAbs<2^64:=gn r.small.1 dc
theorem ok_fused(F:bz K "fused" "Kind.fused" (sK 10) f fd)(G:GN K mg M CK)(k:aB):aD P w K mg base (aO P w M) 4 f fd ["self","x","y","z"] (p9 K M CK k<|tH k):=by
 obtain⟨T,⟨f1,bZ,G1⟩,_,⟨f2,dg,G2⟩,⟨f5,fd5,G5⟩,⟨f3,fh,G3⟩,f4,hU,G4⟩:=G;have O5:aD P w K mg base (aO P w M) 3 f5 fd5 _ _:=(Hw G5.F T G1 G2).gr;have O4:aD P w K mg base _ 3 f4 hU _ _:=(Be G4.F T G1 G3 k).aV dc;refine F.oc (HU 10 dc) λH Q E hr h=>?_;obtain⟨⟨_,x,y,z,_⟩,⟨v,r,rfl,hk,v2,r2,rfl,⟨p,hp,rp⟩,v3,r3,rfl,⟨q,hq,rq⟩,v4,r4,rfl,⟨u,hu,ru⟩,rfl⟩,kk⟩:=h;refine⟨_,aR (bg (bV (O 0) T.cl G4.aJ O4 hr G4.b .nil aA<|bJ (cJ O5 hr J G5.m G5.F.kp G5.b .nil aA (bJ (O 1)<|O 2))<|O 3)),?_⟩;exact(uO (Bw.rep_ma hk.1 rp rq ru) kk).by (D3 (aj J aM hk) ((Hj (aj J sf ⟨hp,xj rp⟩)<|aj J sf ⟨hq,xj rq⟩).sN λ_ _ z=>⟨z,U9 rp rq⟩)<|aj J DK ⟨hu,zA ru⟩)
theorem ok_fusedLess(F:bz K "fused_less" "Kind.fused_less" (sK 11) f fd)(G:GN K mg M CK)(k:aB):aD P w K mg base (aO P w M) 4 f fd ["self","x","y","z"] (p9 K M CK k<|vT k):=by
 obtain⟨T,⟨f1,bZ,G1⟩,⟨f6,fd6,G6⟩,⟨f2,dg,G2⟩,⟨f5,fd5,G5⟩,⟨f3,fh,G3⟩,f4,hU,G4⟩:=G;have O5:aD P w K mg base (aO P w M) 3 f5 fd5 _ _:=(Hw G5.F T G1 G2).gr;have O6:aD P w K mg base (aO P w M) 3 f6 fd6 _<|qM K M:=(y_ G6.F).gr.aV dc;have O4:aD P w K mg base _ 3 f4 hU _ _:=(Be G4.F T G1 G3 k).aV dc;refine F.oc (HU 11 dc) λH Q E hr h=>?_;obtain⟨⟨_,x,y,z,_⟩,⟨v,r,rfl,hk,v2,r2,rfl,⟨p,hp,rp⟩,v3,r3,rfl,⟨q,hq,rq⟩,v4,r4,rfl,⟨u,hu,ru⟩,rfl⟩,kk⟩:=h;refine⟨_,aR<|bg (bV (O 0) T.cl G4.aJ O4 hr G4.b .nil aA (bJ (cJ O5 hr J G5.m G5.F.kp G5.b .nil aA (bJ (O 1)<|O 2))<|cJ O6 hr J G6.m G6.F.kp G6.b .nil aA (bu<|O 3))),?_⟩;exact(uO (Bw.rep_ms hk.1 rp rq ru) kk).by (D3 (aj J aM hk) ((Hj (aj J sf ⟨hp,xj rp⟩)<|aj J sf ⟨hq,xj rq⟩).sN λ_ _ z=>⟨z,U9 rp rq⟩) ((yZ<|aj J gJ hu).sN λ_ _ z=>⟨z,EC<|Ir ru⟩))
theorem ok_lessFused(F:bz K "less_fused" "Kind.less_fused" (sK 12) f fd)(G:GN K mg M CK)(k:aB):aD P w K mg base (aO P w M) 4 f fd ["self","x","y","z"] (p9 K M CK k<|J2 k):=by
 obtain⟨T,⟨f1,bZ,G1⟩,⟨f6,fd6,G6⟩,⟨f2,dg,G2⟩,⟨f5,fd5,G5⟩,⟨f3,fh,G3⟩,f4,hU,G4⟩:=G;have O5:aD P w K mg base (aO P w M) 3 f5 fd5 _ _:=(Hw G5.F T G1 G2).gr;have O6:aD P w K mg base (aO P w M) 3 f6 fd6 _<|qM K M:=(y_ G6.F).gr.aV dc;have O4:aD P w K mg base _ 3 f4 hU _ _:=(Be G4.F T G1 G3 k).aV dc;refine F.oc (HU 12 dc) λH Q E hr h=>?_;obtain⟨⟨_,x,y,z,_⟩,⟨v,r,rfl,hk,v2,r2,rfl,⟨p,hp,rp⟩,v3,r3,rfl,⟨q,hq,rq⟩,v4,r4,rfl,⟨u,hu,ru⟩,rfl⟩,kk⟩:=h;refine⟨_,aR<|bg (bV (O 0) T.cl G4.aJ O4 hr G4.b .nil aA<|bJ (cJ O6 hr J G6.m G6.F.kp G6.b .nil aA (bu<|cJ O5 hr J G5.m G5.F.kp G5.b .nil aA (bJ (O 1)<|O 2)))<|O 3),?_⟩;exact(uO (Bw.rep_nma hk.1 rp rq ru) kk).by (D3 (aj J aM hk) ((yZ (Hj (aj J sf ⟨hp,xj rp⟩)<|aj J sf ⟨hq,xj rq⟩)).sN λ_ _ z=>⟨z,EC<|Nf rp rq⟩)<|aj J DK ⟨hu,zA ru⟩)
theorem ok_fusedOpp(F:bz K "fused_opposite" "Kind.fused_opposite" (sK 13) f fd)(G:GN K mg M CK)(k:aB):aD P w K mg base (aO P w M) 4 f fd ["self","x","y","z"] (p9 K M CK k<|Po k):=by
 obtain⟨T,⟨f1,bZ,G1⟩,⟨f6,fd6,G6⟩,⟨f2,dg,G2⟩,⟨f5,fd5,G5⟩,⟨f3,fh,G3⟩,f4,hU,G4⟩:=G;have O5:aD P w K mg base (aO P w M) 3 f5 fd5 _ _:=(Hw G5.F T G1 G2).gr;have O6:aD P w K mg base (aO P w M) 3 f6 fd6 _<|qM K M:=(y_ G6.F).gr.aV dc;have O4:aD P w K mg base _ 3 f4 hU _ _:=(Be G4.F T G1 G3 k).aV dc;refine F.oc (HU 13 dc) λH Q E hr h=>?_;obtain⟨⟨_,x,y,z,_⟩,⟨v,r,rfl,hk,v2,r2,rfl,⟨p,hp,rp⟩,v3,r3,rfl,⟨q,hq,rq⟩,v4,r4,rfl,⟨u,hu,ru⟩,rfl⟩,kk⟩:=h;refine⟨_,aR (bg (bV (O 0) T.cl G4.aJ O4 hr G4.b .nil aA<|bJ (cJ O6 hr J G6.m G6.F.kp G6.b .nil aA (bu<|cJ O5 hr J G5.m G5.F.kp G5.b .nil aA (bJ (O 1)<|O 2)))<|cJ O6 hr J G6.m G6.F.kp G6.b .nil aA (bu<|O 3))),?_⟩;exact(uO (Bw.rep_nms hk.1 rp rq ru) kk).by (D3 (aj J aM hk) ((yZ (Hj (aj J sf ⟨hp,xj rp⟩)<|aj J sf ⟨hq,xj rq⟩)).sN λ_ _ z=>⟨z,EC<|Nf rp rq⟩) ((yZ<|aj J gJ hu).sN λ_ _ z=>⟨z,EC<|Ir ru⟩))
end
end BW
namespace BW
open PySem PySem.Spec PyProof.Rows L2
open Bw (bS cQ bf cn Gives eZ ij nZ iB gx kZ jJ jz hm lI lM nE n8 fK cY)
section
variable{P:cN}{w:World}{K:aq}{mg:ax->aw aE}{base:b9}{M CK:ak}
def RW:bO af:=λ_ v n=>v= .int n/\0<n/\n<2^240
abbrev NO(M:ak):Sp:=c7 M (aQ RW cq) RI λx=>L<|xZ x.1
theorem Ez:bE ["n","guess","better"] ["n"]<|bw MH:=fs
theorem Df(g N:af):((g+N/g)/2)=(((g+N/g)/2:af):ae):=by
 omega
theorem ok_wroot{f:ak}{fd:cX}(F:bz K "whole_root" "whole_root" MH f fd):aD P w K mg base gZ 1 f fd ["n"]<|NO M:=by
 refine F.ok Ez (λvs H Q E h=>?_) λcG A bC s H vs Q E hr h=>?_
 ·obtain⟨t,⟨v,r,rfl,_,rfl⟩,_⟩:=h
  rfl
 ·obtain⟨⟨N,_⟩,⟨v,r,rfl,⟨rfl,n0,n1⟩,rfl⟩,k⟩:=h
  refine⟨_,aG (bA 1 Ez.nd (bL lH a_<|bL D7 (bL fu (Ea<|O 0) a_) a_))
   (aG (bA 2 Ez.nd<|bL D7 (bL fu (O 1) (bL Hz (O 0)<|O 1)) a_)
   (aG (Ms PassesOwn.never (dB lG (O 2) (O 1)<|cT _) (aG (bA 1 Ez.nd<|O 2)<|aR (bA 2 Ez.nd<|bL D7 (bL fu (O 1) (bL Hz (O 0)<|O 1)) a_)))
   (aR (bg<|O 1)))),?_⟩
  have n0:0<N:=n0;have n1:N<2^240:=n1;have N4:Jm 0 2:=⟨dc,dc⟩;have lg:N.log2<240:=(vI om).mpr n1;have eb:((kh (N:ae):ae)+1)/2=(((N.log2+1+1)/2:af):ae):=by
   rw[vZ,Bw.Am om,show((N:ae)).natAbs=N by omega];omega
  refine⟨_,J,_,J,_,_,J,J,_,_,J,J,N4,_,_,J,J,⟨?_,?_,by show(1:ae).natAbs<2^250;decide⟩,?_⟩
  ·show 0<=((kh (N:ae):ae)+1)/2
   rw[eb];omega
  ·show((kh (N:ae):ae)+1)/2<=100000
   rw[eb];omega
  have eg:(1:ae)*2^(((kh (N:ae):ae)+1)/2).toNat=((2^((N.log2+1+1)/2):af):ae):=by
   rw[eb,zM,<-Bw.iS]
   congr 1
  have ZP:=Bw.newton_start (n:=N);have gp:0<2^((N.log2+1+1)/2):=Ca _;have gl:2^((N.log2+1+1)/2)<2^130:=Xt om om
  have bZ:∀g:af,0<g->g<2^130->(0:ae)<(g:ae)/\((g:ae)).natAbs<2^250:=λg h1 h2=>⟨om,by
   exact gn h2 dc⟩
  refine⟨_,J,_,J,_,J,_,_,J,J,?_,_,_,J,J,_,_,J,J,N4,?_⟩
  ·show(0:ae)<1*2^(((kh (N:ae):ae)+1)/2).toNat/\((1:ae)*2^(((kh (N:ae):ae)+1)/2).toNat).natAbs<2^250
   rw[eg];exact bZ _ gp gl
  show oS (N0 _ _) _ _ [L<|.int (N:ae),L<|.int _,L _] H;rw[eg];generalize 2^((N.log2+1+1)/2)=g0 at*;refine while_by (λσ H'=>∃g:af,σ=[L<|.int (N:ae),L<|.int (g:ae),L (.int<|((g:ae)+(N:ae)/(g:ae))/2)]/\H'=H/\0<g/\N<(g+1)*(g+1)/\g<2^130)
   (λσ _=>match σ with|[_,L (.int g),_]=>g.toNat|_=>0) ⟨g0,J,J,gp,ZP,gl⟩ ?_ ?_
  ·rintro σ H' ⟨g,rfl,rfl,h1,h2,h3⟩
   refine⟨_,J,_,J,_,_,J,J,_,J,d4 (λc=>?_) λc=>?_⟩
   ·have c:=dE c
    rw[Df] at c;obtain⟨s1,s2⟩:=Bw.newton_step n0 h1 om;refine⟨_,J,_,J,_,J,_,J,_,_,J,J,?_,_,_,J,J,_,_,J,J,N4,?_⟩
    ·show(0:ae)<((g:ae)+(N:ae)/(g:ae))/2/\(((g:ae)+(N:ae)/(g:ae))/2).natAbs<2^250
     rw[Df];exact bZ _ s1 om
    ·refine⟨⟨(g+N/g)/2,?_,J,s1,s2,om⟩,?_⟩
     ·show [L<|V.int (N:ae),L _,L _]=_
      rw[Df]
     ·show(((g:ae)+(N:ae)/(g:ae))/2).toNat<((g:ae)).toNat
      rw[Df];omega
   ·have c:¬((g:ae)+(N:ae)/(g:ae))/2<(g:ae):=λz=>c<|dD z
    rw[Df] at c;have e:=(Bw.newton_end h1 h2 om).zH<|Bw.wm N;exact⟨_,J,k.GK (by show((xZ N:af):ae)=(g:ae);omega)⟩
  ·rintro σ U Q1 Q2 f ⟨v,hv,u,hu,i,j,e1,e2,b,e3,q⟩
   exact⟨v,hv,u,hu,i,j,e1,e2,b,e3,f _ _ q⟩
end
end BW
namespace BW
open PySem PySem.Spec PyProof.Rows L2
open Bw (bS cQ bf cn Gives eZ ij nZ iB gx kZ jJ jz hm lI lM nE n8 fK cY)
theorem Ak(i:ae):(if i<0 then-i else i)=i.natAbs:=by split<;>omega
theorem max_cast(j:ae):(if j>0 then j else 0)=max 0 j:=by split<;>omega
section
variable{P:cN}{w:World}{K:aq}{mg:ax->aw aE}{base:b9}{M CK:ak}
abbrev Iv(K:aq)(M CK:ak)(k:aB)(g:af->af->aw af):Sp:=c7 M (aQ (RK CK k) (aQ (RC K k)<|aQ (RC K k) cq)) (RC K k) λx=>g x.2.1 x.2.2.1
abbrev Iu(K:aq)(M CK:ak)(k:aB)(g:af->aw af):Sp:=c7 M (aQ (RK CK k)<|aQ (RC K k) cq) (RC K k) λx=>g x.2.1
theorem Ib:bE ["self","x","y","lift","raised","m"] ["self","x","y"] (bw<|sK 8):=fs
theorem quot_small(hA:A<2^53)(hl:l<=200):2*(A*2^l/B)+1<2^255:=by
 have h1:A*2^l/B<=A*2^l:=Xm _ _;have h2:A*2^l<=2^53*2^200:=q_ om<|jY om hl;omega
theorem ok_over{f:ak}{fd:cX}(F:bz K "over" "Kind.over" (sK 8) f fd)(G:GN K mg M CK)(k:aB):aD P w K mg base (aO P w M) 3 f fd ["self","x","y"] (Iv K M CK k<|xX k):=by
 obtain⟨T,⟨f1,bZ,G1⟩,_,⟨f2,dg,G2⟩,_,⟨f3,fh,G3⟩,_⟩:=G;have O1:aD P w K mg base (aO P w M) 2 f1 bZ ["x"]<|qL K M:=(Hx G1.F).gr.aV dc;have O2:aD P w K mg base (aO P w M) 2 f2 dg ["x","y"]<|IA K M:=(Me G2.F T G1).gr;have O3:aD P w K mg base (aO P w M) 2 f3 fh ["self","m","e"]<|uZ K M CK k:=(D5 G3.F T k).aV dc;refine F.oc Ib λH Q E hr h=>?_;obtain⟨⟨_,x,y,_⟩,⟨v,r,rfl,⟨hk,c,dx,rfl,hc⟩,v2,r2,rfl,⟨⟨a,rfl,hp⟩,fx⟩,v3,r3,rfl,⟨⟨b,rfl,hq⟩,fy⟩,rfl⟩,kk⟩:=h
 refine⟨_,aG (dU (dB iQ (aX<|O 2) a_<|cT _) (aR<|HE J T.rM HH J T.r_) d5)
  (aG (dU (dB iQ (aX<|O 1) a_<|cT _) (aR (bg<|cJ O2 hr J G2.m G2.F.kp G2.b .nil aA (bJ (O 1)<|O 2))) d5)
  (aG (bA 3 Ib.nd (jy (YV J) J T.max boot_max<|bJ a_ (bL ig (bL fu (bL fu (bh<|O 0) a_)<|Ea (aX<|O 2))<|Ea (aX<|O 1))))
  (aG (bA 4 Ib.nd<|bL lH (jy FR J T.yg Kj<|bu (aX<|O 1))<|O 3)
  (aG (bA 5 Ib.nd (bL fu (bL D8 a_<|bL Hz (O 4) (jy FR J T.yg Kj<|bu (aX<|O 2)))<|mw (dB iQ (bL HA (O 4) (jy FR J T.yg Kj<|bu (aX<|O 2))) a_<|cT _) a_ a_))
  (aR (bg (bV (O 0) T.cl G3.aJ O3 hr G3.b .nil aA (dz (mw (dB To (cJ O1 hr J G1.m G1.F.kp G1.b .nil aA (bu<|O 1)) (cJ O1 hr J G1.m G1.F.kp G1.b .nil aA (bu<|O 2))<|cT _) (xg xA<|O 5)<|O 5)
    (bu<|bL ig (bL ig (bL ig (aX<|O 1) (aX<|O 2))<|O 3) a_))))))))),?_⟩
 have kk:=uO (Bw.rep_div hk fx fy) kk;have kb:=Dz hk;have h1:=(cn.bf hk fx).small;have h2:=(cn.bf hk fy).small;have hp:cD K H a [.int (bf k x).1,.int (bf k x).2]:=hp;have hq:cD K H b [.int (bf k y).1,.int (bf k y).2]:=hq;generalize bf k x=p at*;generalize bf k y=q at*;refine⟨_,J,b,_,_,_,J,J,hq,J,_,_,J,J,_,J,d4 (λc1=>?_) λc1=>?_⟩
 ·have c1:q.1=0:=dE c1
  exact kk.no H (az.refl H) (by unfold lI;rw[aH c1])
 have c1:¬q.1=0:=λz=>c1<|dD z;refine⟨_,J,a,_,_,_,J,J,hp,J,_,_,J,J,_,J,d4 (λc2=>?_) λc2=>?_⟩
 ·have c2:p.1=0:=dE c2
  unfold lI at kk;rw[ay c1,aH c2] at kk;exact kk.by (L' (aj J gJ ⟨a,J,hp⟩)<|aj J gJ ⟨b,J,hq⟩)
 have c2:¬p.1=0:=λz=>c2<|dD z;have el:(if((k.frac+1:af):ae)+2+(kh q.1:ae)-(kh p.1:ae)>0 then((k.frac+1:af):ae)+2+(kh q.1:ae)-(kh p.1:ae) else 0)=Bw.fZ k p q:=by
  rw[max_cast,vZ,vZ];rfl
 have bq:=yk h2.1;have bl:0<=Bw.fZ k p q/\Bw.fZ k p q<=120:=by unfold Bw.fZ;omega
 refine⟨_,J,c,CK,dx,_,_,J,hc,T.cl,T.nd,yK k,_,_,J,J,_,J,b,_,_,_,J,J,hq,J,_,J,_,_,J,J,_,J,a,_,_,_,J,J,hp,J,_,J,_,_,J,J,_,_,J,?_⟩;dsimp only[eE];rw[el];refine⟨_,J,a,_,_,_,J,J,hp,J,_,J,_,J,_,_,J,J,⟨?_,?_,?_⟩,?_⟩
 ·show 0<=Bw.fZ k p q;omega
 ·show Bw.fZ k p q<=100000;omega
 ·show(if p.1<0 then-p.1 else p.1).natAbs<2^250
  rw[Ak];have:(2:af)^53<=2^250:=by decide
  omega
 dsimp only[eE];rw[Ak];have ez:(p.1.natAbs:ae)*2^(Bw.fZ k p q).toNat=((p.1.natAbs*2^(Bw.fZ k p q).toNat:af):ae):=by rw[qf,Bw.iS]
 have T2:(0:ae)<(if q.1<0 then-q.1 else q.1)/\(if q.1<0 then-q.1 else q.1).natAbs<2^250:=by
  rw[Ak];have:(2:af)^53<=2^250:=by decide
  exact⟨om,om⟩
 have er:∀aJ:ae,aJ=2*((p.1.natAbs:ae)*2^(Bw.fZ k p q).toNat/(q.1.natAbs:ae))+(if(p.1.natAbs:ae)*2^(Bw.fZ k p q).toNat%(q.1.natAbs:ae)=0 then 0 else 1)->lI k p q=eZ k (if(hm p !=hm q)=ao then-aJ else aJ) (p.2-q.2-Bw.fZ k p q-1):=λaJ e=>by
  unfold lI;rw[ay c1,ay c2,e]
 have bM:∀aJ:ae,aJ=2*((p.1.natAbs:ae)*2^(Bw.fZ k p q).toNat/(q.1.natAbs:ae))+(if(p.1.natAbs:ae)*2^(Bw.fZ k p q).toNat%(q.1.natAbs:ae)=0 then 0 else 1)->aJ.natAbs<2^255:=λaJ e=>by
  have h3:=quot_small (A:=p.1.natAbs) (B:=q.1.natAbs) (l:=(Bw.fZ k p q).toNat) h1.1 om;rw[ez,<-Om,<-WU] at e;generalize p.1.natAbs*2^(Bw.fZ k p q).toNat/q.1.natAbs=d at*
  split at e<;>omega
 have dj:∀aJ:ae,aJ=2*((p.1.natAbs:ae)*2^(Bw.fZ k p q).toNat/(q.1.natAbs:ae))+(if(p.1.natAbs:ae)*2^(Bw.fZ k p q).toNat%(q.1.natAbs:ae)=0 then 0 else 1)->NT M E (RP K) (lI k p q) [L<|.ref c,L<|.ref a,L<|.ref b,L (.int<|Bw.fZ k p q),L (.int<|(p.1.natAbs:ae)*2^(Bw.fZ k p q).toNat),L<|.int aJ] H
   (eu CK "rounded" (uZ K M CK k) [] E (au 0) (aU (NX (IU (bY (λx y H Q=>∃a b,x= .bl a/\y= .bl b/\Q (.bl<|a !=b) H) (d8 (qL K M) [] E<|aU (au 1) b8) (d8 (qL K M) [] E<|aU (au 2) b8))) (V0 (rU λi=>.int (-i))<|au 5)<|au 5)
     (aU (bY (gy λi j=>.int<|i-j) (bY (gy λi j=>.int<|i-j) (bY (gy λi j=>.int<|i-j) (bY (dI K) (au 1) (tC<|.int 1))<|bY (dI K) (au 2) (tC<|.int 1))<|au 3) (tC<|.int 1)) b8))):=λaJ e=>by
  rw[er aJ e];have bm:=bM aJ e;refine Bc (aj J aM ⟨hk,c,dx,J,hc⟩) (λU Q1 s1 k1=>?_) λU Q1 s1 k1=>?_
  ·have vx:NT M E (RP K) (L p) [L<|.ref c,L<|.ref a,L<|.ref b,L (.int<|Bw.fZ k p q),L (.int<|(p.1.natAbs:ae)*2^(Bw.fZ k p q).toNat),L<|.int aJ] U<|au 1:=aj J gJ ⟨a,J,s1.tup hp⟩
   have vy:NT M E (RP K) (L q) [L<|.ref c,L<|.ref a,L<|.ref b,L (.int<|Bw.fZ k p q),L (.int<|(p.1.natAbs:ae)*2^(Bw.fZ k p q).toNat),L<|.int aJ] U<|au 2:=aj J gJ ⟨b,J,s1.tup hq⟩;refine(sC vx).go λv H2 s2 q1=>?_;refine(sC<|vy.at_ s2).go λv2 H3 s3 q2=>?_;refine⟨_,_,q1,q2,_,J,d4 (λz=>?_) λz=>?_⟩
   ·refine⟨_,J,_,J,k1.ok H3 _ _ (s2.trans s3) J ⟨?_,?_⟩⟩
    ·rw[aH z]
    ·rw[aH z];exact dJ (yk (n:=255) om) dc
   ·refine⟨_,J,k1.ok H3 _ _ (s2.trans s3) J ⟨?_,?_⟩⟩
    ·rw[ay z]
    ·rw[ay z];exact dJ (yk (n:=255) om) dc
  ·exact⟨_,J,a,_,_,_,J,J,s1.tup hp,J,_,J,b,_,_,_,J,J,s1.tup hq,J,_,_,J,J,_,J,_,_,J,J,_,_,J,J,k1.ok U _ _ sr J ⟨J,by show-9000<=p.2-q.2-Bw.fZ k p q-1/\p.2-q.2-Bw.fZ k p q-1<=9000;omega⟩⟩
 refine⟨_,J,_,J,b,_,_,_,J,J,hq,J,_,J,_,_,J,J,T2,_,_,J,J,.inl ⟨dc,dc⟩,_,J,_,J,b,_,_,_,J,J,hq,J,_,J,_,_,J,J,T2.1,_,_,J,J,_,J,d4 (λz=>?_) λz=>?_⟩
 ·have z:(p.1.natAbs:ae)*2^(Bw.fZ k p q).toNat%(if q.1<0 then-q.1 else q.1)=0:=dE z
  refine⟨_,_,J,J,?_⟩;refine kk.by<|dj _ ?_;rw[Ak] at z⊢;rw[aH z]
 ·have z:¬(p.1.natAbs:ae)*2^(Bw.fZ k p q).toNat%(if q.1<0 then-q.1 else q.1)=0:=λy=>z<|dD y
  refine⟨_,_,J,J,?_⟩;refine kk.by<|dj _ ?_;rw[Ak] at z⊢;rw[ay z]
end
end BW
namespace BW
open PySem PySem.Spec PyProof.Rows L2
open Bw (bS cQ bf cn Gives eZ ij nZ iB gx kZ jJ jz hm lI lM nE n8 fK cY)
section
variable{P:cN}{w:World}{K:aq}{mg:ax->aw aE}{base:b9}{M CK:ak}
theorem Eu:bE ["self","x","lift","raised","whole","m"] ["self","x"] (bw<|sK 9):=fs
theorem nt_wroot(h:NT M E RW (L n) σ H te):NT M E RI (L<|xZ n) σ H (d8 (NO M) [] E<|aU te b8):=cP (f:=λx=>L (xZ x.1:ae))<|aF (λ_ _ _ _ _ h=>h) h bQ
theorem root_le(h:Bw.mL m r):r<=m:=by
 by_cases z:r=0
 ·omega
 ·exact dJ (Xn r om) h.1
theorem ok_root{f f2:ak}{fd dg:cX}(F:bz K "root" "Kind.root" (sK 9) f fd)(G:GN K mg M CK)(G2:Gf K mg "whole_root" MH f2 dg ["n"])(k:aB):aD P w K mg base (aO P w M) 2 f fd ["self","x"] (Iu K M CK k<|vU k):=by
 obtain⟨T,_,_,_,_,⟨f3,fh,G3⟩,_⟩:=G;have O2:aD P w K mg base (aO P w M) 1 f2 dg ["n"]<|NO M:=(ok_wroot G2.F).gr;have O3:aD P w K mg base (aO P w M) 1 f3 fh ["self","m","e"]<|uZ K M CK k:=D5 G3.F T k;refine F.oc Eu λH Q E hr h=>?_;obtain⟨⟨_,x,_⟩,⟨v,r,rfl,⟨hk,c,dx,rfl,hc⟩,v2,r2,rfl,⟨⟨a,rfl,hp⟩,fx⟩,rfl⟩,kk⟩:=h
 refine⟨_,aG (dU (dB iQ (aX<|O 1) a_<|cT _) (aR (bg<|O 1)) d5)
  (aG (dU (dB lG (aX<|O 1) a_<|cT _) (aR<|HE J T.rM HH J T.r_) d5)
  (aG (bA 2 Eu.nd (bL fu (bL fu (bL D8 a_ (bh<|O 0)) a_)<|bL HA (aX<|O 1) a_))
  (aG (bA 3 Eu.nd<|bL lH (aX<|O 1)<|O 2)
  (aG (bA 4 Eu.nd<|cJ O2 hr J G2.m G2.F.kp G2.b .nil aA (bu<|O 3))
  (aG (bA 5 Eu.nd (bL fu (bL D8 a_<|O 4) (mw (dB iQ (bL op_mulB (O 4)<|O 4) (O 3)<|cT _) a_ a_)))
  (aR (bg<|bV (O 0) T.cl G3.aJ O3 hr G3.b .nil aA (bJ (O 5)<|bL ig (bL D7 (bL ig (aX<|O 1)<|O 2) a_) a_)))))))),?_⟩
 have kk:=uO (Bw.rep_root hk fx) kk;have kb:=Dz hk;have h1:=(cn.bf hk fx).small;have hp:cD K H a [.int (bf k x).1,.int (bf k x).2]:=hp;generalize bf k x=p at*;refine⟨_,J,a,_,_,_,J,J,hp,J,_,_,J,J,_,J,d4 (λc1=>?_) λc1=>?_⟩
 ·have c1:p.1=0:=dE c1
  exact⟨_,J,kk.ok H _ _ (az.refl H) (by unfold lM;rw[aH c1]) ⟨a,J,hp⟩⟩
 have c1:¬p.1=0:=λz=>c1<|dD z;refine⟨_,J,a,_,_,_,J,J,hp,J,_,_,J,J,_,J,d4 (λc2=>?_) λc2=>?_⟩
 ·have c2:p.1<0:=dE c2
  exact kk.no H (az.refl H) (by unfold lM;rw[ay c1,aH c2])
 have c2:¬p.1<0:=λz=>c2<|dD z;refine⟨_,J,c,CK,dx,_,_,J,hc,T.cl,T.nd,yK k,_,_,J,J,.inl ⟨dc,dc⟩,_,_,J,J,_,J,a,_,_,_,J,J,hp,J,_,_,J,J,(by show(0:ae)<2;decide),_,_,J,J,?_⟩;dsimp only[eE];have bl:0<=2*((k.frac+1:af):ae)+4+p.2%2/\2*((k.frac+1:af):ae)+4+p.2%2<=111:=by omega
 have er:lM k p=eZ k (2*(xZ (p.1.toNat*2^(2*((k.frac+1:af):ae)+4+p.2%2).toNat):ae)+(if xZ (p.1.toNat*2^(2*((k.frac+1:af):ae)+4+p.2%2).toNat)*xZ (p.1.toNat*2^(2*((k.frac+1:af):ae)+4+p.2%2).toNat)=p.1.toNat*2^(2*((k.frac+1:af):ae)+4+p.2%2).toNat then 0 else 1)) ((p.2-(2*((k.frac+1:af):ae)+4+p.2%2))/2-1):=by
  unfold lM;rw[ay c1,ay c2]
 generalize 2*((k.frac+1:af):ae)+4+p.2%2=l at*;have Kd:(2:af)^53<=2^250:=by decide
 refine⟨_,J,a,_,_,_,J,J,hp,J,_,J,_,_,J,J,⟨?_,?_,?_⟩,?_⟩
 ·show 0<=l;omega
 ·show l<=100000;omega
 ·show p.1.natAbs<2^250;omega
 dsimp only[eE];have ez:p.1*2^l.toNat=((p.1.toNat*2^l.toNat:af):ae):=by
  rw[qf,Bw.iS]
  congr 1
  omega
 have m1:p.1.toNat*2^l.toNat<2^240:=by
  calc p.1.toNat*2^l.toNat<=2^53*2^111:=q_ om (jY om om)
   _<2^240:=by decide
 have m0:0<p.1.toNat*2^l.toNat:=OO om<|Ca _;rw[ez];generalize p.1.toNat*2^l.toNat=N at*;have rl:=root_le<|Bw.wm N;refine NT.go (nt_wroot<|aj J (λ_ _ _ _ _ h=>h) ⟨J,m0,m1⟩) λv U s1 q1=>?_
 cases q1
 dsimp only[eE];generalize xZ N=W at*;have hc1:=s1 _ _ hc;have Li:=s1.tup hp;have Lv:=kk.at_ s1;have b25:(2:af)^240<=2^250:=by decide
 have dj:∀aJ:ae,aJ=2*(W:ae)+(if W*W=N then 0 else 1)->NT M E (RP K) (lM k p) [L<|.ref c,L<|.ref a,L<|.int l,L<|.int (N:ae),L<|.int (W:ae),L<|.int aJ] U
  (eu CK "rounded" (uZ K M CK k) [] E (au 0) (aU (au 5)<|aU (bY (gy λi j=>.int<|i-j) (bY (rI Jm λi j=>.int<|i/j) (bY (gy λi j=>.int<|i-j) (bY (dI K) (au 1) (tC<|.int 1))<|au 2) (tC<|.int 2)) (tC<|.int 1)) b8)):=λaJ e=>by
  rw[er,<-e];refine Bc (aj J aM ⟨hk,c,dx,J,hc1⟩) (aj J DJ ⟨J,?_⟩) λH2 Q2 s2 k2=>?_
  ·refine dJ (yk (n:=250) ?_) dc
   have:(2:af)^240*4<=2^250:=by decide
   split at e<;>omega
  ·exact⟨_,J,a,_,_,_,J,J,s2.tup Li,J,_,J,_,_,J,J,_,_,J,J,⟨dc,dc⟩,_,_,J,J,k2.ok H2 _ _ sr J ⟨J,by show-9000<=(p.2-l)/2-1/\(p.2-l)/2-1<=9000;omega⟩⟩
 refine⟨_,J,_,_,J,J,.inl ⟨dc,dc⟩,_,J,_,J,_,_,J,J,⟨?_,?_⟩,_,J,_,_,J,J,_,J,d4 (λz=>?_) λz=>?_⟩
 ·show((W:ae)).natAbs<2^250;omega
 ·show((W:ae)).natAbs<2^250;omega
 ·have z:(W:ae)*(W:ae)=(N:ae):=dE z
  rw[<-qf] at z;exact⟨_,_,J,J,Lv.by (dj _<|by rw[aH om])⟩
 ·have z:¬(W:ae)*(W:ae)=(N:ae):=λy=>z<|dD y
  rw[<-qf] at z;exact⟨_,_,J,J,Lv.by (dj _<|by rw[ay om])⟩
end
end BW
namespace BW
open PySem PySem.Spec PyProof.Rows L2
open Bw (bS cQ bf cn Gives eZ ij nZ iB gx kZ jJ jz hm lI lM nE n8 fK cY)
theorem Rw{c A B:Prop}[Decidable c](hc:c)(h:A):if decide c=ao then A else B:=by
 rw[aH<|dD hc];exact h
theorem Rv{c A B:Prop}[Decidable c](hc:¬c)(h:B):if decide c=ao then A else B:=by
 rw[ay λz=>hc<|dE z];exact h
def RX(k:aB):bO af:=λ_ v x=>v= .int x/\x<2*k.sign
def RO(K:aq)(k:aB):bO<|aw af:=λH v o=>match o with
 |none=>v= .cE
 |some a=>RC K k H v a
def oy(k:aB)(x:af):aw af:=if jv k x=ao then L x else ah
section
variable{P:cN}{w:World}{K:aq}{mg:ax->aw aE}{base:b9}{M CK:ak}
theorem Nd(hk:bS k):2*k.sign<=2^64/\k.frac+k.expo<=63/\k.frac<=52:=by rcases hk with rfl|rfl<;>decide
abbrev Nv(K:aq)(M CK:ak)(k:aB):Sp:=c7 M (aQ (RK CK k)<|aQ (RX k) cq) (RO K k) λx=>L<|oy k x.2.1
theorem zt:bE ["self","bits","sign","size","hidden","field","m","e"] ["self","bits"] (bw<|sK 1):=fs
theorem Td{f:ak}{fd:cX}(F:bz K "from_bits" "Kind.from_bits" (sK 1) f fd)(T:i' K mg M CK)(k:aB):aD P w K mg base gZ 1 f fd ["self","bits"]<|Nv K M CK k:=by
 refine F.ok zt (λvs H Q E h=>?_) λcG A bC s H vs Q E hr h=>?_
 ·obtain⟨t,⟨v,r,rfl,_,v2,r2,rfl,_,rfl⟩,_⟩:=h
  rfl
 ·obtain⟨⟨_,x,_⟩,⟨v,r,rfl,⟨hk,c,dx,rfl,hc⟩,v2,r2,rfl,⟨rfl,hx⟩,rfl⟩,kk⟩:=h
  refine⟨_,aG (bA 2 zt.nd<|bL Mh (O 1) (bh<|O 0))
   (aG (bA 3 zt.nd (bL ig (O 1)<|bL lH (O 2) (bh<|O 0)))
   (aG (bA 4 zt.nd (bL lH a_<|bL ig (bh<|O 0) a_))
   (aG (bA 5 zt.nd (bL Hz (O 3)<|O 4))
   (aG (dU (dB uF (O 5) (bL fu (bL ig (bh<|O 0) (bh<|O 0)) a_)<|cT _) (aR<|bg nV) d5)
   (aG (dU (dB iQ (O 3) a_<|cT _) (aR (bg<|fO (bJ a_<|O 2))) d5)
   (aG (bA 6 zt.nd (mw (dB iQ (O 5) a_<|cT _) (O 3)<|bL fu (bL HA (O 3)<|O 4)<|O 4))
   (aG (bA 7 zt.nd (mw (dB iQ (O 5) a_<|cT _) (bh<|O 0) (bL ig (bL fu (bh<|O 0)<|O 5) a_)))
   (aR (bg (fO<|bJ (mw (dB iQ (O 2) a_<|cT _) (xg xA<|O 6)<|O 6)<|O 7)))))))))),?_⟩
  have hx:x<2*k.sign:=hx;have ks:=Nd hk;have sp:=Bw.ZJ (k:=k) hx
  have kn:nE k (x:ae)=ah-> ∀U,az H U->Q .cE U:=λe U s1=>kk.ok U _ _ s1 J (by
   show RO K k U .cE (oy k x);unfold oy;rw[e] at sp
   split at sp
   ·cases sp
   ·rename_i z
    rw[ay z]
    rfl)
  have ky:∀p,nE k (x:ae)=L p-> ∀l,H l=ah->Q (.ref l) (aC H l<|.tup [.int p.1,.int p.2]):=λp e l hl=>kk.ok _ _ _ (az.new hl) J (by
   show RO K k _ (.ref l) (oy k x);unfold oy;rw[e] at sp
   split at sp
   ·rename_i z
    rw[aH z]
    cases sp
    exact⟨⟨l,J,cD.of bp⟩,hx,z⟩
   ·cases sp)
  unfold nE at kn ky;clear sp;refine⟨_,J,_,J,c,CK,dx,_,_,J,hc,T.cl,T.ns,Dy k,_,_,J,J,(by show(0:ae)<=((k.frac+k.expo:af):ae);omega),?_⟩;dsimp only[eE];rw[kl];have sg0:0<=(x:ae)/2^(k.frac+k.expo)/\(x:ae)/2^(k.frac+k.expo)<=(x:ae):=by
   rw[<-Bw.iS,<-Om];have:=Xm x<|2^(k.frac+k.expo);exact⟨WV _,Int.ofNat_le.mpr this⟩
  refine⟨_,J,_,J,_,J,c,CK,dx,_,_,J,hc,T.cl,T.ns,Dy k,_,_,J,J,⟨?_,?_,?_⟩,_,_,J,J,?_⟩
  ·show(0:ae)<=((k.frac+k.expo:af):ae);omega
  ·show((k.frac+k.expo:af):ae)<=100000;omega
  ·show((x:ae)/2^(k.frac+k.expo)).natAbs<2^250
   have:(2:af)^64<=2^250:=by decide
   omega
  dsimp only[eE];rw[kl];refine⟨_,J,c,CK,dx,_,_,J,hc,T.cl,T.nd,yK k,_,_,J,J,_,_,J,J,⟨?_,?_,by show(1:ae).natAbs<2^250;decide⟩,?_⟩
  ·show(0:ae)<=((k.frac+1:af):ae)-1;omega
  ·show((k.frac+1:af):ae)-1<=100000;omega
  dsimp only[eE];have eh:(1:ae)*2^(((k.frac+1:af):ae)-1).toNat=2^k.frac:=by
   rw[zM]
   congr 1
   omega
  rw[eh];have hh:(0:ae)<2^k.frac/\((2:ae)^k.frac).natAbs<2^250:=by
   refine⟨Bw.mi _,?_⟩;rw[Jx];exact Xt om om
  dsimp only at kn ky;generalize GB:(x:ae)/2^(k.frac+k.expo)=sI at*;generalize nJ:(x:ae)-sI*2^(k.frac+k.expo)=size at*;generalize hhd:(2:ae)^k.frac=rT at*;refine⟨_,J,_,J,_,_,J,J,hh,?_⟩;dsimp only[eE];generalize hfd:size/rT=fld at*;refine⟨_,J,_,J,c,CK,dx,_,_,J,hc,T.cl,T.ng,Dx k,_,J,c,CK,dx,_,_,J,hc,T.cl,T.nl,yL k,_,_,J,J,_,_,J,J,_,_,J,J,_,J,d4 (λc1=>?_) λc1=>?_⟩
  ·have c1:Bw.aN k-k.least+1<fld:=dE c1
   exact kn (aH c1) H<|az.refl H
  have c1:¬Bw.aN k-k.least+1<fld:=λz=>c1<|dD z;refine⟨_,J,_,_,J,J,_,J,d4 (λc2=>?_) λc2=>?_⟩
  ·have c2:size=0:=dE c2
   exact⟨_,J,(by show 2<=bH;decide),ky (0,sI)<|by rw[ay c1,aH c2]⟩
  have c2:¬size=0:=λz=>c2<|dD z;have mh:(0:ae)<rT:=hh.1;by_cases c3:fld=0
  ·refine⟨_,J,_,_,J,J,_,J,Rw c3 ?_⟩
   refine⟨_,J,_,J,_,_,J,J,_,J,Rw c3 ?_⟩;refine⟨_,J,c,CK,dx,_,_,J,hc,T.cl,T.nl,yL k,_,J,_,_,J,J,_,J,d4 (λc4=>?_) λc4=>?_⟩
   ·have c4:sI=1:=dE c4
    exact⟨_,J,_,J,_,J,(by show 2<=bH;decide),ky (-size,k.least)<|by rw[ay c1,ay c2,aH c3,aH c3,aH c4]⟩
   ·have c4:¬sI=1:=λz=>c4<|dD z
    exact⟨_,J,_,J,(by show 2<=bH;decide),ky (size,k.least)<|by rw[ay c1,ay c2,aH c3,aH c3,ay c4]⟩
  ·refine⟨_,J,_,_,J,J,_,J,Rv c3 ?_⟩
   refine⟨_,J,_,J,_,_,J,J,mh,_,J,_,_,J,J,_,J,_,_,J,J,_,J,Rv c3 ?_⟩;refine⟨_,J,c,CK,dx,_,_,J,hc,T.cl,T.nl,yL k,_,J,_,_,J,J,_,_,J,J,_,J,_,_,J,J,_,J,d4 (λc4=>?_) λc4=>?_⟩
   ·have c4:sI=1:=dE c4
    exact⟨_,J,_,J,_,J,(by show 2<=bH;decide),ky (-(size%rT+rT),k.least+fld-1)<|by rw[ay c1,ay c2,ay c3,ay c3,aH c4]⟩
   ·have c4:¬sI=1:=λz=>c4<|dD z
    exact⟨_,J,_,J,(by show 2<=bH;decide),ky (size%rT+rT,k.least+fld-1)<|by rw[ay c1,ay c2,ay c3,ay c3,ay c4]⟩
end
end BW
namespace BW
open PySem PySem.Spec PyProof.Rows L2
open Bw (bS cQ bf cn Gives eZ ij nZ iB gx kZ jJ jz hm lI lM nE n8 fK cY)
section
variable{P:cN}{w:World}{K:aq}{mg:ax->aw aE}{base:b9}{M CK:ak}
abbrev NL(K:aq)(M CK:ak)(k:aB):Sp:=c7 M (aQ (RK CK k)<|aQ (RC K k) cq) RI λx=>L<|x.2.1
theorem UI:bE ["self","x","size"] ["self","x"] (bw<|sK 2):=fs
theorem Tj{f:ak}{fd:cX}(F:bz K "to_bits" "Kind.to_bits" (sK 2) f fd)(T:i' K mg M CK)(k:aB):aD P w K mg base gZ 1 f fd ["self","x"]<|NL K M CK k:=by
 refine F.ok UI (λvs H Q E h=>?_) λcG A bC s H vs Q E hr h=>?_
 ·obtain⟨t,⟨v,r,rfl,_,v2,r2,rfl,_,rfl⟩,_⟩:=h
  rfl
 ·obtain⟨⟨_,x,_⟩,⟨v,r,rfl,⟨hk,c,dx,rfl,hc⟩,v2,r2,rfl,⟨⟨a,rfl,hp⟩,fx⟩,rfl⟩,kk⟩:=h
  refine⟨_,aG (dU (dB iQ (aX<|O 1) a_<|cT _) (aR<|bg (bL lH (aX<|O 1) (bh<|O 0))) d5)
   (aG (bA 2 UI.nd (bL fu (bL lH (bL ig (aX<|O 1) (bh<|O 0))<|bL ig (bh<|O 0) a_) (jy FR J T.yg Kj<|bu (aX<|O 1))))
   (aR (bg (mw (dB lG (aX<|O 1) a_<|cT _) (bL fu (O 2)<|bL lH a_ (bh<|O 0))<|O 2)))),?_⟩
  have sp:=Bw.N3 (k:=k) fx.1;have kk:bW M RI H (L (x:ae)) Q E:=kk;rw[<-sp] at kk;have kb:=Dz hk;have ks:=Nd hk;have h1:=(cn.bf hk fx).small;clear sp fx;generalize bf k x=p at*;refine⟨_,J,a,_,_,_,J,J,hp,J,_,_,J,J,_,J,d4 (λc1=>?_) λc1=>?_⟩
  ·have c1:p.1=0:=dE c1
   refine⟨_,J,a,_,_,_,J,J,hp,J,_,J,c,CK,dx,_,_,J,hc,T.cl,T.ns,Dy k,_,_,J,J,⟨?_,?_,?_⟩,kk.GK ?_⟩
   ·omega
   ·omega
   ·show p.2.natAbs<2^250;omega
   ·unfold n8
    rw[aH c1,kl]
  have c1:¬p.1=0:=λz=>c1<|dD z;refine⟨_,J,a,_,_,_,J,J,hp,J,_,J,c,CK,dx,_,_,J,hc,T.cl,T.nl,yL k,_,_,J,J,_,J,c,CK,dx,_,_,J,hc,T.cl,T.nd,yK k,_,_,J,J,_,_,J,J,⟨?_,?_,?_⟩,_,J,a,_,_,_,J,J,hp,J,_,J,_,_,J,J,?_⟩
  ·omega
  ·show((k.frac+1:af):ae)-1<=100000;omega
  ·show(p.2-k.least).natAbs<2^250;omega
  dsimp only[eE];have eh:(p.2-k.least)*2^(((k.frac+1:af):ae)-1).toNat+(if p.1<0 then-p.1 else p.1)=(p.2-k.least)*2^k.frac+(p.1.natAbs:ae):=by
   rw[Ak]
   congr 3
   omega
  rw[eh];refine⟨_,J,a,_,_,_,J,J,hp,J,_,_,J,J,_,J,d4 (λc2=>?_) λc2=>?_⟩
  ·have c2:p.1<0:=dE c2
   refine⟨_,J,_,J,c,CK,dx,_,_,J,hc,T.cl,T.ns,Dy k,_,_,J,J,⟨?_,?_,by show(1:ae).natAbs<2^250;decide⟩,_,_,J,J,kk.GK ?_⟩
   ·omega
   ·omega
   ·unfold n8
    rw[ay c1,aH c2,kl,zM]
  ·have c2:¬p.1<0:=λz=>c2<|dD z
   refine⟨_,J,kk.GK ?_⟩;unfold n8;rw[ay c1,ay c2]
def spKI(CK:ak):Sp:=λvs H Q _=>∃(p dx:ak)(k:aB),vs=[.ref p,.int (k.frac+1:af),.int k.least,.int<|Bw.aN k,.int (k.frac+k.expo:af),.int k.lanes]/\H p=L (.ins CK dx [])/\ ∀H',H' p=L (.ins CK dx<|kf k)->(∀b o,H b=L o->b≠p->H' b=L o)->Q .cE H'
theorem scKI:bE ["self","digits","least","greatest","sign_bit","lanes"] ["self","digits","least","greatest","sign_bit","lanes"] (bw<|sK 0):=fs
theorem Te(F:bz K "__init__" "Kind.__init__" (sK 0) f fd)(T:i' K mg M CK):aD P w K mg base gZ 1 f fd ["self","digits","least","greatest","sign_bit","lanes"]<|spKI CK:=by
 refine F.ok scKI (λvs H Q E h=>?_) λcG A bC s H vs Q E hr h=>?_
 ·obtain⟨p,dx,k,rfl,_⟩:=h
  rfl
 ·obtain⟨p,dx,k,rfl,hp,kk⟩:=h
  refine⟨_,aG (dH (O 0) (O 1) J)<|aG (dH (O 0) (O 2) J) (aG (dH (O 0) (O 3) J)<|aG (dH (O 0) (O 4) J) (aR<|dH (O 0) (O 5) J)),?_⟩;refine⟨_,J,_,J,p,CK,dx,_,J,hp,T.cl,T.nd,(by decide),?_⟩;refine⟨_,J,_,J,p,CK,dx,_,J,bp,T.cl,T.nl,(by show 1<1000;decide),?_⟩;refine⟨_,J,_,J,p,CK,dx,_,J,bp,T.cl,T.ng,(by show 2<1000;decide),?_⟩;refine⟨_,J,_,J,p,CK,dx,_,J,bp,T.cl,T.ns,(by show 3<1000;decide),?_⟩;refine⟨_,J,_,J,p,CK,dx,_,J,bp,T.cl,T.Sx,(by show 4<1000;decide),?_⟩;exact kk _ bp λb o e hb=>by rw[bI hb,bI hb,bI hb,bI hb,bI hb];exact e
abbrev Uq:dr:=aN 14
abbrev Ur:dr:=aN 15
abbrev xr(M CK:ak)(k:aB):Sp:=c7 M cq (RK CK k) λ_=>L ()
theorem scMkD:bE [] []<|bw Uq:=fs
theorem scMkS:bE [] []<|bw Ur:=fs
theorem ok_mkD(F:bz K "make_doubles" "make_doubles" Uq f fd)(T:i' K mg M CK)(aJ:Mk K CK f1)(F1:bz K "__init__" "Kind.__init__" (sK 0) f1 bZ)(b1:Binds K bZ ["self","digits","least","greatest","sign_bit","lanes"] []):aD P w K mg base gZ 3 f fd []<|xr M CK z8:=by
 have O1:aD P w K mg base gZ 1 f1 bZ _ _:=Te F1 T;refine F.ok scMkD (λvs H Q E h=>?_) λcG A bC s H vs Q E hr h=>?_
 ·obtain⟨t,rfl,_⟩:=h
  rfl
 ·obtain⟨t,rfl,kk⟩:=h
  refine⟨_,aR<|bg (oI aJ O1 hr J T.R8 b1 .nil xc<|dz a_ (dz (xg xA a_)<|bF a_ a_ a_)),?_⟩;refine⟨_,J,λx dx n0 n1 n2=>⟨x,dx,z8,J,bp,λU h1 h2=>⟨J,?_⟩⟩⟩;exact kk.ok U _ () (az.made n0 n1 h2) J ⟨.inl J,x,dx,J,h1⟩
theorem ok_mkS(F:bz K "make_singles" "make_singles" Ur f fd)(T:i' K mg M CK)(aJ:Mk K CK f1)(F1:bz K "__init__" "Kind.__init__" (sK 0) f1 bZ)(b1:Binds K bZ ["self","digits","least","greatest","sign_bit","lanes"] []):aD P w K mg base gZ 3 f fd []<|xr M CK z_:=by
 have O1:aD P w K mg base gZ 1 f1 bZ _ _:=Te F1 T;refine F.ok scMkS (λvs H Q E h=>?_) λcG A bC s H vs Q E hr h=>?_
 ·obtain⟨t,rfl,_⟩:=h
  rfl
 ·obtain⟨t,rfl,kk⟩:=h
  refine⟨_,aR<|bg (oI aJ O1 hr J T.R8 b1 .nil xc<|dz a_ (dz (xg xA a_)<|bF a_ a_ a_)),?_⟩;refine⟨_,J,λx dx n0 n1 n2=>⟨x,dx,z_,J,bp,λU h1 h2=>⟨J,?_⟩⟩⟩;exact kk.ok U _ () (az.made n0 n1 h2) J ⟨.inr J,x,dx,J,h1⟩
end
end BW
namespace BW
open PySem PySem.Spec PyProof.Rows L2
open Bw (bS cQ bf cn)
theorem _root_.L2.NT.cW{R R':bO α}{r:aw α}(h:NT C E R r σ H te)(w:∀H v y,R H v y->R' H v y):NT C E R' r σ H te:=λU Q s k=>
 h U Q s ⟨λH' v z s' e q=>k.ok H' v z s' e<|w _ _ _ q,k.no⟩
section
variable(P:cN)(w:World)(K:aq)(mg:ax->aw aE)(base:b9)(M CK:ak)
def pd(x:ax)(ps:ag ax)(sp:aB->Sp):Prop:=∃(f:ak)(fd:cX),o_ K CK x f/\Binds K fd ps []/\ ∀k,aD P w K mg base (aO P w M) 4 f fd ps<|sp k
def cU(l:af)(x:ax)(ps:ag ax)(sp:aB->Sp):Prop:=∃(f:ak)(fd:cX),mg x=L (.ref f)/\jn K (.ref f)=ao/\Binds K fd ps []/\ ∀k,aD P w K mg base (aO P w M) l f fd ps<|sp k
structure KM:Prop where
 T:i' K mg M CK
 add:pd P w K mg base M CK "plus" ["self","x","y"] λk=>qJ K M CK k (eU k)
 sub:pd P w K mg base M CK "minus" ["self","x","y"] λk=>qJ K M CK k (Cr k)
 mul:pd P w K mg base M CK "times" ["self","x","y"] λk=>qJ K M CK k (ir k)
 div:pd P w K mg base M CK "over" ["self","x","y"] λk=>Iv K M CK k (xX k)
 root:pd P w K mg base M CK "root" ["self","x"] λk=>Iu K M CK k (vU k)
 ma:pd P w K mg base M CK "fused" ["self","x","y","z"] λk=>p9 K M CK k (tH k)
 ms:pd P w K mg base M CK "fused_less" ["self","x","y","z"] λk=>p9 K M CK k (vT k)
 nma:pd P w K mg base M CK "less_fused" ["self","x","y","z"] λk=>p9 K M CK k (J2 k)
 nms:pd P w K mg base M CK "fused_opposite" ["self","x","y","z"] λk=>p9 K M CK k<|Po k
end
theorem cU.c{p pos:gP}(A:cU X.prog X.w X.K X.mg X.base M l x ps sp)(k:aB)(hr:fg n X.A)(hx:lV (aO X.prog X.w M) X E)(ha:PA X (e::es) t)(hl:l<=n:=by decide)(hg:Gl X x:=by exact J)(oE:(x=="__debug__")=aK:=by decide)(he:dq (e::es) X.env=(aK,da e X.env)::dq es X.env:=by rfl)(fj:(jr pos<|dq es X.env).any (·.1)=aK:=by rfl):PE X (.Call (.Name x p) (e::es) [] pos)<|d8 (sp k) [] E t:=by
 obtain⟨f,fd,m,k1,b,i7⟩:=A;exact cJ (i7 k) (hr.aV hl) hg m k1 b .nil hx ha oE he fj
def R3(K:aq)(k:aB):bO dP:=λH v p=>∃a x y z,v= .ref a/\cD K H a [x,y,z]/\RC K k H x p.x/\RC K k H y p.y/\RC K k H z p.z
theorem bR{K:aq}:cV<|R3 K k:=λ_ _ _ _ s⟨a,x,y,z,e,h,h1,h2,h3⟩=>⟨a,x,y,z,e,s.tup h,aI.up s h1,aI.up s h2,aI.up s h3⟩
def kI(m:ax):Prop:=¬m="sign_bit"/\ ¬m="greatest"/\ ¬m="least"/\ ¬m="digits"/\ ¬m="lanes"
section
variable{K:aq}{M CK:ak}{E:XK}{σ:L2.St}{H:Hp}{te t1 t2 t3:TE}{k:aB}{m:ax}
theorem pM(n:kI m)(h0:NT M E (RK CK k) (L ()) σ H te)(h1:NT M E (RN K k) r σ H t1)(h2:NT M E (RN K k) s σ H t2):NT M E (RC K k) (r.bind λa=>s.bind λb=>g a b) σ H<|eu CK m (qJ K M CK k g) [] E te (aU t1<|aU t2 b8):=NT.eq (oF h0 aM (λ_ _=>uP n.1 n.2.1 n.2.2.1 n.2.2.2.1 n.2.2.2.2) (aF eK h1<|aF eK h2 bQ))<|by cases r<;>cases s<;>rfl
theorem nt_m2c(n:kI m)(h0:NT M E (RK CK k) (L ()) σ H te)(h1:NT M E (RC K k) r σ H t1)(h2:NT M E (RC K k) s σ H t2):NT M E (RC K k) (r.bind λa=>s.bind λb=>g a b) σ H<|eu CK m (Iv K M CK k g) [] E te (aU t1<|aU t2 b8):=NT.eq (oF h0 aM (λ_ _=>uP n.1 n.2.1 n.2.2.1 n.2.2.2.1 n.2.2.2.2) (aF aI h1<|aF aI h2 bQ))<|by cases r<;>cases s<;>rfl
theorem SY(n:kI m)(h0:NT M E (RK CK k) (L ()) σ H te)(h1:NT M E (RC K k) r σ H t1):NT M E (RC K k) (r.bind g) σ H (eu CK m (Iu K M CK k g) [] E te<|aU t1 b8):=NT.eq (oF h0 aM (λ_ _=>uP n.1 n.2.1 n.2.2.1 n.2.2.2.1 n.2.2.2.2)<|aF aI h1 bQ)<|by cases r<;>rfl
theorem uB(n:kI m)(h0:NT M E (RK CK k) (L ()) σ H te)(h1:NT M E (RN K k) r σ H t1)(h2:NT M E (RN K k) s σ H t2)(h3:NT M E (RN K k) t σ H t3):NT M E (RC K k) (r.bind λa=>s.bind λb=>t.bind λc=>g a b c) σ H (eu CK m (p9 K M CK k g) [] E te<|aU t1 (aU t2<|aU t3 b8)):=NT.eq (oF h0 aM (λ_ _=>uP n.1 n.2.1 n.2.2.1 n.2.2.2.1 n.2.2.2.2)<|aF eK h1 (aF eK h2<|aF eK h3 bQ))<|by cases r<;>cases s<;>cases t<;>rfl
theorem jc(h:NT M E (R3 K k) (L p) σ H te):NT M E (RC K k) (L p.x) σ H<|bY (dI K) te (tC<|.int 0):=ka 0 h λ_ _⟨a,x,y,z,e,q,h1,_,_⟩=>⟨a,_,x,e,q,J,h1⟩
theorem jd(h:NT M E (R3 K k) (L p) σ H te):NT M E (RC K k) (L p.y) σ H<|bY (dI K) te (tC<|.int 1):=ka 1 h λ_ _⟨a,x,y,z,e,q,_,h1,_⟩=>⟨a,_,y,e,q,J,h1⟩
theorem je(h:NT M E (R3 K k) (L p) σ H te):NT M E (RC K k) (L p.z) σ H<|bY (dI K) te (tC<|.int 2):=ka 2 h λ_ _⟨a,x,y,z,e,q,_,_,h1⟩=>⟨a,_,z,e,q,J,h1⟩
theorem pN(h1:NT M E (RC K k) r σ H t1)(h2:NT M E (RC K k) s σ H t2)(h3:NT M E (RC K k) t σ H t3):NT M E (R3 K k) (vS r s t) σ H (kN<|aU t1 (aU t2<|aU t3 b8)):=NT.eq (y' (f:=λx=>L ⟨x.1,x.2.1,x.2.2.1⟩) (aF aI h1 (aF aI h2<|aF aI h3 bQ))
  (λ_ _ _⟨v,r,e,_,v2,r2,e2,_,v3,r3,e3,_,e4⟩=>by subst e e2 e3 e4;show 3<=bH;decide)
  (λ_ _ y p⟨v,r,e,q1,v2,r2,e2,q2,v3,r3,e3,q3,e4⟩hp=>by subst e e2 e3 e4;exact⟨_,J,p,v,v2,v3,J,cD.of hp,q1,q2,q3⟩)
  (mq aI (mq aI<|mq aI yR))) (by unfold vS;cases r<;>cases s<;>cases t<;>rfl)
end
abbrev qK(K:aq)(M CK:ak)(k:aB)(g:dP->dP->aw dP):Sp:=c7 M (aQ (RK CK k) (aQ (R3 K k)<|aQ (R3 K k) cq)) (R3 K k) λx=>g x.2.1 x.2.2.1
section
variable{P:cN}{w:World}{K:aq}{mg:ax->aw aE}{base:b9}{M CK:ak}
theorem pK(m:ax)(h:(decide (¬m="sign_bit")&&decide (¬m="greatest")&&decide (¬m="least")&&decide (¬m="digits")&&decide (¬m="lanes"))=ao):kI m:=by
 rw[eR,eR,eR,eR] at h;exact⟨dE h.1.1.1.1,dE h.1.1.1.2,dE h.1.1.2,dE h.1.2,dE h.2⟩
theorem Sy:kI "plus":=pK _ dk
theorem noMinus:kI "minus":=pK _ dk
theorem uw:kI "times":=pK _ dk
theorem noOver:kI "over":=pK _ dk
theorem Sz:kI "root":=pK _ dk
theorem G9:kI "fused":=pK _ dk
theorem LW:kI "fused_less":=pK _ dk
theorem noLessFused:kI "less_fused":=pK _ dk
theorem noFusedOpp:kI "fused_opposite":=pK _ dk
section
variable{E:XK}{σ:L2.St}{H:Hp}{te t1 t2 t3:TE}{k:aB}{r s t:aw af}
theorem uy(hk:bS k)(h0:NT M E (RK CK k) (L ()) σ H te)(h1:NT M E (RC K k) r σ H t1)(h2:NT M E (RC K k) s σ H t2):NT M E (RC K k) (r.bind λa=>s.bind λb=>eU k a b) σ H (eu CK "plus" (qJ K M CK k<|eU k) [] E te (aU t1<|aU t2 b8)):=pM Sy h0 (h1.cW λ_ _ _=>dS hk) (h2.cW λ_ _ _=>dS hk)
theorem Bd(hk:bS k)(h0:NT M E (RK CK k) (L ()) σ H te)(h1:NT M E (RC K k) r σ H t1)(h2:NT M E (RC K k) s σ H t2):NT M E (RC K k) (r.bind λa=>s.bind λb=>Cr k a b) σ H (eu CK "minus" (qJ K M CK k<|Cr k) [] E te (aU t1<|aU t2 b8)):=pM noMinus h0 (h1.cW λ_ _ _=>dS hk) (h2.cW λ_ _ _=>dS hk)
theorem qE(hk:bS k)(h0:NT M E (RK CK k) (L ()) σ H te)(h1:NT M E (RC K k) r σ H t1)(h2:NT M E (RC K k) s σ H t2):NT M E (RC K k) (r.bind λa=>s.bind λb=>ir k a b) σ H (eu CK "times" (qJ K M CK k<|ir k) [] E te (aU t1<|aU t2 b8)):=pM uw h0 (h1.cW λ_ _ _=>dS hk) (h2.cW λ_ _ _=>dS hk)
theorem yV(h0:NT M E (RK CK k) (L ()) σ H te)(h1:NT M E (RC K k) r σ H t1)(h2:NT M E (RC K k) s σ H t2):NT M E (RC K k) (r.bind λa=>s.bind λb=>xX k a b) σ H (eu CK "over" (Iv K M CK k<|xX k) [] E te (aU t1<|aU t2 b8)):=nt_m2c noOver h0 h1 h2
theorem nt_root(h0:NT M E (RK CK k) (L ()) σ H te)(h1:NT M E (RC K k) r σ H t1):NT M E (RC K k) (r.bind<|vU k) σ H<|eu CK "root" (Iu K M CK k<|vU k) [] E te<|aU t1 b8:=SY Sz h0 h1
theorem qD(hk:bS k)(h0:NT M E (RK CK k) (L ()) σ H te)(h1:NT M E (RC K k) r σ H t1)(h2:NT M E (RC K k) s σ H t2)(h3:NT M E (RC K k) t σ H t3):NT M E (RC K k) (r.bind λa=>s.bind λb=>t.bind λc=>tH k a b c) σ H (eu CK "fused" (p9 K M CK k<|tH k) [] E te<|aU t1 (aU t2<|aU t3 b8)):=uB G9 h0 (h1.cW λ_ _ _=>dS hk) (h2.cW λ_ _ _=>dS hk) (h3.cW λ_ _ _=>dS hk)
theorem S0(hk:bS k)(h0:NT M E (RK CK k) (L ()) σ H te)(h1:NT M E (RC K k) r σ H t1)(h2:NT M E (RC K k) s σ H t2)(h3:NT M E (RC K k) t σ H t3):NT M E (RC K k) (r.bind λa=>s.bind λb=>t.bind λc=>vT k a b c) σ H (eu CK "fused_less" (p9 K M CK k<|vT k) [] E te<|aU t1 (aU t2<|aU t3 b8)):=uB LW h0 (h1.cW λ_ _ _=>dS hk) (h2.cW λ_ _ _=>dS hk) (h3.cW λ_ _ _=>dS hk)
theorem Hq(hk:bS k)(h0:NT M E (RK CK k) (L ()) σ H te)(h1:NT M E (RC K k) r σ H t1)(h2:NT M E (RC K k) s σ H t2)(h3:NT M E (RC K k) t σ H t3):NT M E (RC K k) (r.bind λa=>s.bind λb=>t.bind λc=>J2 k a b c) σ H (eu CK "less_fused" (p9 K M CK k<|J2 k) [] E te<|aU t1 (aU t2<|aU t3 b8)):=uB noLessFused h0 (h1.cW λ_ _ _=>dS hk) (h2.cW λ_ _ _=>dS hk) (h3.cW λ_ _ _=>dS hk)
end
end
end BW
namespace BW
open PySem PySem.Spec PyProof.Rows L2
open Bw (bS cQ bf cn)
abbrev Nh(K:aq)(M CK:ak)(k:aB)(g:af->dP->aw dP):Sp:=c7 M (aQ (RK CK k) (aQ (RC K k)<|aQ (R3 K k) cq)) (R3 K k) λx=>g x.2.1 x.2.2.1
abbrev Nj(K:aq)(M CK:ak)(k:aB)(g:dP->af->aw dP):Sp:=c7 M (aQ (RK CK k) (aQ (R3 K k)<|aQ (RC K k) cq)) (R3 K k) λx=>g x.2.1 x.2.2.1
abbrev EF(K:aq)(M CK:ak)(k:aB)(g:dP->af->dP->aw dP):Sp:=c7 M (aQ (RK CK k)<|aQ (R3 K k) (aQ (RC K k)<|aQ (R3 K k) cq)) (R3 K k) λx=>g x.2.1 x.2.2.1 x.2.2.2.1
abbrev Nk(K:aq)(M CK:ak)(k:aB)(g:dP->dP->aw af):Sp:=c7 M (aQ (RK CK k) (aQ (R3 K k)<|aQ (R3 K k) cq)) (RC K k) λx=>g x.2.1 x.2.2.1
abbrev EG(K:aq)(M CK:ak)(k:aB)(g:af->af->af->af->aw af):Sp:=c7 M (aQ (RK CK k) (aQ (RC K k)<|aQ (RC K k) (aQ (RC K k)<|aQ (RC K k) cq))) (RC K k) λx=>g x.2.1 x.2.2.1 x.2.2.2.1 x.2.2.2.2.1
section
variable{P:cN}{w:World}{K:aq}{mg:ax->aw aE}{base:b9}{M CK:ak}
theorem sc_added:bE ["kind","a","b"] ["kind","a","b"] (bw<|aN 17):=fs
theorem ok_added(F:bz K "added" "added" (aN 17) f fd)(aJ:KM P w K mg base M CK)(k:aB):aD P w K mg base (aO P w M) 5 f fd ["kind","a","b"] (qK K M CK k<|iR k):=by
 obtain⟨f1,bZ,M1,b1,O1⟩:=aJ.add;refine F.oc sc_added λH Q E hr h=>?_;obtain⟨⟨_,p2,p3,_⟩,⟨w1,r1,rfl,h1,w2,r2,rfl,h2,w3,r3,rfl,h3,rfl⟩,kk⟩:=h;refine⟨_,aR (bg<|fO (bF (bV (O 0) aJ.T.cl M1 (O1 k) hr b1 .nil aA (bJ (aX<|O 1) (aX<|O 2))) (bV (O 0) aJ.T.cl M1 (O1 k) hr b1 .nil aA (bJ (aX<|O 1) (aX<|O 2)))<|bV (O 0) aJ.T.cl M1 (O1 k) hr b1 .nil aA (bJ (aX<|O 1) (aX<|O 2)))),?_⟩;have v0:NT M E _ _ [L w1,L w2,L w3] H<|au 0:=aj J aM h1;have v1:NT M E (R3 K k) _ [L w1,L w2,L w3] H<|au 1:=aj J bR h2;have v2:NT M E (R3 K k) _ [L w1,L w2,L w3] H<|au 2:=aj J bR h3;exact kk.by (pN (uy h1.1 v0 (jc v1)<|jc v2) (uy h1.1 v0 (jd v1)<|jd v2) (uy h1.1 v0 (je v1)<|je v2))
theorem sc_taken_off:bE ["kind","a","b"] ["kind","a","b"] (bw<|aN 18):=fs
theorem ok_taken_off(F:bz K "taken_off" "taken_off" (aN 18) f fd)(aJ:KM P w K mg base M CK)(k:aB):aD P w K mg base (aO P w M) 5 f fd ["kind","a","b"] (qK K M CK k<|wK k):=by
 obtain⟨f1,bZ,M1,b1,O1⟩:=aJ.sub;refine F.oc sc_taken_off λH Q E hr h=>?_;obtain⟨⟨_,p2,p3,_⟩,⟨w1,r1,rfl,h1,w2,r2,rfl,h2,w3,r3,rfl,h3,rfl⟩,kk⟩:=h;refine⟨_,aR (bg<|fO (bF (bV (O 0) aJ.T.cl M1 (O1 k) hr b1 .nil aA (bJ (aX<|O 1) (aX<|O 2))) (bV (O 0) aJ.T.cl M1 (O1 k) hr b1 .nil aA (bJ (aX<|O 1) (aX<|O 2)))<|bV (O 0) aJ.T.cl M1 (O1 k) hr b1 .nil aA (bJ (aX<|O 1) (aX<|O 2)))),?_⟩;have v0:NT M E _ _ [L w1,L w2,L w3] H<|au 0:=aj J aM h1;have v1:NT M E _ _ [L w1,L w2,L w3] H<|au 1:=aj J bR h2;have v2:NT M E (R3 K k) _ [L w1,L w2,L w3] H<|au 2:=aj J bR h3;exact kk.by (pN (Bd h1.1 v0 (jc v1)<|jc v2) (Bd h1.1 v0 (jd v1)<|jd v2) (Bd h1.1 v0 (je v1)<|je v2))
theorem sc_each_times:bE ["kind","a","b"] ["kind","a","b"] (bw<|aN 19):=fs
theorem ok_each_times(F:bz K "each_times" "each_times" (aN 19) f fd)(aJ:KM P w K mg base M CK)(k:aB):aD P w K mg base (aO P w M) 5 f fd ["kind","a","b"] (qK K M CK k<|xY k):=by
 obtain⟨f1,bZ,M1,b1,O1⟩:=aJ.mul;refine F.oc sc_each_times λH Q E hr h=>?_;obtain⟨⟨_,p2,p3,_⟩,⟨w1,r1,rfl,h1,w2,r2,rfl,h2,w3,r3,rfl,h3,rfl⟩,kk⟩:=h;refine⟨_,aR (bg<|fO (bF (bV (O 0) aJ.T.cl M1 (O1 k) hr b1 .nil aA (bJ (aX<|O 1) (aX<|O 2))) (bV (O 0) aJ.T.cl M1 (O1 k) hr b1 .nil aA (bJ (aX<|O 1) (aX<|O 2)))<|bV (O 0) aJ.T.cl M1 (O1 k) hr b1 .nil aA (bJ (aX<|O 1) (aX<|O 2)))),?_⟩;have v0:NT M E _ _ [L w1,L w2,L w3] H<|au 0:=aj J aM h1;have v1:NT M E (R3 K k) _ [L w1,L w2,L w3] H<|au 1:=aj J bR h2;have v2:NT M E (R3 K k) (L p3) [L w1,L w2,L w3] H<|au 2:=aj J bR h3;exact kk.by (pN (qE h1.1 v0 (jc v1)<|jc v2) (qE h1.1 v0 (jd v1)<|jd v2) (qE h1.1 v0 (je v1)<|je v2))
theorem sc_scaled:bE ["kind","c","d"] ["kind","c","d"] (bw<|aN 20):=fs
theorem ok_scaled(F:bz K "scaled" "scaled" (aN 20) f fd)(aJ:KM P w K mg base M CK)(k:aB):aD P w K mg base (aO P w M) 5 f fd ["kind","c","d"] (Nh K M CK k<|vV k):=by
 obtain⟨f1,bZ,M1,b1,O1⟩:=aJ.mul;refine F.oc sc_scaled λH Q E hr h=>?_;obtain⟨⟨_,p2,p3,_⟩,⟨w1,r1,rfl,h1,w2,r2,rfl,h2,w3,r3,rfl,h3,rfl⟩,kk⟩:=h;refine⟨_,aR (bg (fO (bF (bV (O 0) aJ.T.cl M1 (O1 k) hr b1 .nil aA<|bJ (O 1) (aX<|O 2)) (bV (O 0) aJ.T.cl M1 (O1 k) hr b1 .nil aA<|bJ (O 1) (aX<|O 2)) (bV (O 0) aJ.T.cl M1 (O1 k) hr b1 .nil aA<|bJ (O 1) (aX<|O 2))))),?_⟩;have v0:NT M E _ _ [L w1,L w2,L w3] H<|au 0:=aj J aM h1;have v1:NT M E (RC K k) (L p2) [L w1,L w2,L w3] H<|au 1:=aj J aI h2;have v2:NT M E (R3 K k) (L p3) [L w1,L w2,L w3] H<|au 2:=aj J bR h3;exact kk.by (pN (qE h1.1 v0 v1<|jc v2) (qE h1.1 v0 v1<|jd v2) (qE h1.1 v0 v1<|je v2))
theorem sc_divided:bE ["kind","d","c"] ["kind","d","c"] (bw<|aN 21):=fs
theorem ok_divided(F:bz K "divided" "divided" (aN 21) f fd)(aJ:KM P w K mg base M CK)(k:aB):aD P w K mg base (aO P w M) 5 f fd ["kind","d","c"] (Nj K M CK k<|Pp k):=by
 obtain⟨f1,bZ,M1,b1,O1⟩:=aJ.div;refine F.oc sc_divided λH Q E hr h=>?_;obtain⟨⟨_,p2,p3,_⟩,⟨w1,r1,rfl,h1,w2,r2,rfl,h2,w3,r3,rfl,h3,rfl⟩,kk⟩:=h;refine⟨_,aR (bg (fO (bF (bV (O 0) aJ.T.cl M1 (O1 k) hr b1 .nil aA<|bJ (aX<|O 1)<|O 2) (bV (O 0) aJ.T.cl M1 (O1 k) hr b1 .nil aA<|bJ (aX<|O 1)<|O 2) (bV (O 0) aJ.T.cl M1 (O1 k) hr b1 .nil aA<|bJ (aX<|O 1)<|O 2)))),?_⟩;have v0:NT M E _ (L ()) [L w1,L w2,L w3] H<|au 0:=aj J aM h1;have v1:NT M E (R3 K k) (L p2) [L w1,L w2,L w3] H<|au 1:=aj J bR h2;have v2:NT M E (RC K k) (L p3) [L w1,L w2,L w3] H<|au 2:=aj J aI h3;exact kk.by (pN (yV v0 (jc v1) v2) (yV v0 (jd v1) v2)<|yV v0 (je v1) v2)
theorem UM:bE ["kind","p","c","d"] ["kind","p","c","d"] (bw<|aN 22):=fs
theorem ok_along{f:ak}(F:bz K "along" "along" (aN 22) f fd)(aJ:KM P w K mg base M CK)(k:aB):aD P w K mg base (aO P w M) 5 f fd ["kind","p","c","d"]<|EF K M CK k λp c d=>iY k c d p:=by
 obtain⟨f1,bZ,M1,b1,O1⟩:=aJ.ma;refine F.oc UM λH Q E hr h=>?_;obtain⟨⟨_,p2,p3,p4,_⟩,⟨w1,r1,rfl,h1,w2,r2,rfl,h2,w3,r3,rfl,h3,w4,r4,rfl,h4,rfl⟩,kk⟩:=h;refine⟨_,aR (bg<|fO (bF (bV (O 0) aJ.T.cl M1 (O1 k) hr b1 .nil aA (bF (O 2) (aX<|O 3) (aX<|O 1))) (bV (O 0) aJ.T.cl M1 (O1 k) hr b1 .nil aA (bF (O 2) (aX<|O 3) (aX<|O 1)))<|bV (O 0) aJ.T.cl M1 (O1 k) hr b1 .nil aA (bF (O 2) (aX<|O 3) (aX<|O 1)))),?_⟩;have v0:NT M E (RK CK k) (L ()) [L w1,L w2,L w3,L w4] H<|au 0:=aj J aM h1;have v1:NT M E (R3 K k) (L p2) [L w1,L w2,L w3,L w4] H<|au 1:=aj J bR h2;have v2:NT M E (RC K k) (L p3) [L w1,L w2,L w3,L w4] H<|au 2:=aj J aI h3;have v3:NT M E (R3 K k) (L p4) [L w1,L w2,L w3,L w4] H<|au 3:=aj J bR h4;exact kk.by (pN (qD h1.1 v0 v2 (jc v3)<|jc v1) (qD h1.1 v0 v2 (jd v3)<|jd v1) (qD h1.1 v0 v2 (je v3)<|je v1))
theorem sc_against:bE ["kind","p","c","d"] ["kind","p","c","d"] (bw<|aN 23):=fs
theorem ok_against{f:ak}{fd:cX}(F:bz K "against" "against" (aN 23) f fd)(aJ:KM P w K mg base M CK)(k:aB):aD P w K mg base (aO P w M) 5 f fd ["kind","p","c","d"]<|EF K M CK k λp c d=>xW k c d p:=by
 obtain⟨f1,bZ,M1,b1,O1⟩:=aJ.nma;refine F.oc sc_against λH Q E hr h=>?_;obtain⟨⟨_,p2,p3,p4,_⟩,⟨w1,r1,rfl,h1,w2,r2,rfl,h2,w3,r3,rfl,h3,w4,r4,rfl,h4,rfl⟩,kk⟩:=h;refine⟨_,aR (bg<|fO (bF (bV (O 0) aJ.T.cl M1 (O1 k) hr b1 .nil aA (bF (O 2) (aX<|O 3) (aX<|O 1))) (bV (O 0) aJ.T.cl M1 (O1 k) hr b1 .nil aA (bF (O 2) (aX<|O 3) (aX<|O 1)))<|bV (O 0) aJ.T.cl M1 (O1 k) hr b1 .nil aA (bF (O 2) (aX<|O 3) (aX<|O 1)))),?_⟩;have v0:NT M E (RK CK k) (L ()) [L w1,L w2,L w3,L w4] H<|au 0:=aj J aM h1;have v1:NT M E (R3 K k) (L p2) [L w1,L w2,L w3,L w4] H<|au 1:=aj J bR h2;have v2:NT M E (RC K k) (L p3) [L w1,L w2,L w3,L w4] H<|au 2:=aj J aI h3;have v3:NT M E (R3 K k) (L p4) [L w1,L w2,L w3,L w4] H<|au 3:=aj J bR h4;exact kk.by (pN (Hq h1.1 v0 v2 (jc v3)<|jc v1) (Hq h1.1 v0 v2 (jd v3)<|jd v1) (Hq h1.1 v0 v2 (je v3)<|je v1))
theorem M0:bE ["kind","a","b","s"] ["kind","a","b"] (bw<|aN 24):=fs
theorem ok_dot{f:ak}{fd:cX}(F:bz K "dot" "dot" (aN 24) f fd)(aJ:KM P w K mg base M CK)(k:aB):aD P w K mg base (aO P w M) 5 f fd ["kind","a","b"] (Nk K M CK k<|lX k):=by
 obtain⟨f1,bZ,M1,b1,O1⟩:=aJ.mul;obtain⟨f2,dg,M2,b2,O2⟩:=aJ.ma;refine F.oc M0 λH Q E hr h=>?_;obtain⟨⟨_,p2,p3,_⟩,⟨w1,r1,rfl,h1,w2,r2,rfl,h2,w3,r3,rfl,h3,rfl⟩,kk⟩:=h;refine⟨_,aG (bA 3 M0.nd<|bV (O 0) aJ.T.cl M1 (O1 k) hr b1 .nil aA (bJ (aX<|O 1) (aX<|O 2))) (aG (bA 3 M0.nd<|bV (O 0) aJ.T.cl M2 (O2 k) hr b2 .nil aA (bF (aX<|O 1) (aX<|O 2)<|O 3)) (aR (bg<|bV (O 0) aJ.T.cl M2 (O2 k) hr b2 .nil aA (bF (aX<|O 1) (aX<|O 2)<|O 3)))),?_⟩;have v0:NT M E (RK CK k) (L ()) [L w1,L w2,L w3,ah] H<|au 0:=aj J aM h1;have v1:NT M E (R3 K k) (L p2) [L w1,L w2,L w3,ah] H<|au 1:=aj J bR h2;have v2:NT M E (R3 K k) (L p3) [L w1,L w2,L w3,ah] H<|au 2:=aj J bR h3;refine bW.bind (rb:=ir k p2.x p3.x) kk (qE h1.1 v0 (jc v1)<|jc v2) λy1 u1 U s1 _ q1 k1=>?_;have v0:∀u,NT M E (RK CK k) (L ()) [L w1,L w2,L w3,L u] H<|au 0:=λu=>aj J aM h1;have v1:∀u,NT M E (R3 K k) (L p2) [L w1,L w2,L w3,L u] H<|au 1:=λu=>aj J bR h2;have v2:∀u,NT M E (R3 K k) (L p3) [L w1,L w2,L w3,L u] H<|au 2:=λu=>aj J bR h3;have v3:NT M E (RC K k) (L y1) [L w1,L w2,L w3,L u1] U<|au 3:=aj J aI q1;refine bW.bind (rb:=tH k p2.y p3.y y1) k1 (qD h1.1 ((v0 u1).at_ s1) (jd<|(v1 u1).at_ s1) (jd<|(v2 u1).at_ s1) v3) λy2 u2 H2 s2 _ q2 k2=>?_;have v3:NT M E (RC K k) (L y2) [L w1,L w2,L w3,L u2] H2<|au 3:=aj J aI q2;exact k2.by (qD h1.1 ((v0 u2).at_<|s1.trans s2) (je ((v1 u2).at_<|s1.trans s2)) (je ((v2 u2).at_<|s1.trans s2)) v3)
end
end BW
namespace BW
open PySem PySem.Spec PyProof.Rows L2
open Bw (bS cQ bf cn)
section
variable{P:cN}{w:World}{K:aq}{mg:ax->aw aE}{base:b9}{M CK:ak}
def KR(k:aB)(p q r s:af):aw af:=(ir k r s).bind λw=>vT k p q w
theorem sc_plain:bE ["kind","p","q","r","s"] ["kind","p","q","r","s"] (bw<|aN 26):=fs
theorem Tf(F:bz K "plain_difference" "plain_difference" (aN 26) f fd)(aJ:KM P w K mg base M CK)(k:aB):aD P w K mg base (aO P w M) 5 f fd ["kind","p","q","r","s"] (EG K M CK k<|KR k):=by
 obtain⟨f1,bZ,M1,b1,O1⟩:=aJ.mul;obtain⟨f2,dg,M2,b2,O2⟩:=aJ.ms;refine F.oc sc_plain λH Q E hr h=>?_;obtain⟨⟨_,p2,p3,p4,p5,_⟩,⟨w1,r1,rfl,h1,w2,r2,rfl,h2,w3,r3,rfl,h3,w4,r4,rfl,h4,w5,r5,rfl,h5,rfl⟩,kk⟩:=h;refine⟨_,aR (bg<|bV (O 0) aJ.T.cl M2 (O2 k) hr b2 .nil aA (bF (O 1) (O 2)<|bV (O 0) aJ.T.cl M1 (O1 k) hr b1 .nil aA (bJ (O 3)<|O 4))),?_⟩;have v0:NT M E _ _ [L w1,L w2,L w3,L w4,L w5] H<|au 0:=aj J aM h1;exact kk.by<|S0 h1.1 v0 (aj J aI h2) (aj J aI h3) (qE h1.1 v0 (aj J aI h4)<|aj J aI h5)
theorem Ii:bE ["kind","p","q","r","s","w","e","f"] ["kind","p","q","r","s"] (bw<|aN 27):=fs
theorem ok_mended(F:bz K "mended_difference" "mended_difference" (aN 27) f fd)(aJ:KM P w K mg base M CK)(k:aB):aD P w K mg base (aO P w M) 5 f fd ["kind","p","q","r","s"] (EG K M CK k<|Rb49.lessProduct k):=by
 obtain⟨f1,bZ,M1,b1,O1⟩:=aJ.mul;obtain⟨f2,dg,M2,b2,O2⟩:=aJ.ms;obtain⟨f3,fh,M3,b3,O3⟩:=aJ.nma;obtain⟨f4,hU,M4,b4,O4⟩:=aJ.add;refine F.oc Ii λH Q E hr h=>?_;obtain⟨⟨_,p2,p3,p4,p5,_⟩,⟨w1,r1,rfl,h1,w2,r2,rfl,h2,w3,r3,rfl,h3,w4,r4,rfl,h4,w5,r5,rfl,h5,rfl⟩,kk⟩:=h
 refine⟨_,aG (bA 5 Ii.nd<|bV (O 0) aJ.T.cl M1 (O1 k) hr b1 .nil aA (bJ (O 3)<|O 4))
  (aG (bA 6 Ii.nd<|bV (O 0) aJ.T.cl M3 (O3 k) hr b3 .nil aA (bF (O 3) (O 4)<|O 5))
  (aG (bA 7 Ii.nd<|bV (O 0) aJ.T.cl M2 (O2 k) hr b2 .nil aA (bF (O 1) (O 2)<|O 5))
  (aR (bg<|bV (O 0) aJ.T.cl M4 (O4 k) hr b4 .nil aA (bJ (O 7)<|O 6))))),?_⟩
 refine bW.bind kk (qE h1.1 (aj J aM h1) (aj J aI h4)<|aj J aI h5) λy1 u1 U s1 _ q1 k1=>?_;refine bW.bind k1 (Hq h1.1 (aj J aM<|aM.up s1 h1) (aj J aI<|aI.up s1 h4) (aj J aI<|aI.up s1 h5)<|aj J aI q1) λy2 u2 H2 s2 _ q2 k2=>?_;have ji:=s1.trans s2;refine bW.bind k2 (S0 h1.1 (aj J aM<|aM.up ji h1) (aj J aI<|aI.up ji h2) (aj J aI<|aI.up ji h3) (aj J aI<|aI.up s2 q1)) λy3 u3 H3 s3 _ q3 k3=>?_;exact k3.by (uy h1.1 (aj J aM<|aM _ _ _ _ (ji.trans s3) h1) (aj J aI q3) (aj J aI<|aI.up s3 q2))
def RF(f:ak):bO j1:=λ_ v _=>v= .ref f
theorem kH:cV<|RF f:=λ_ _ _ _ _ h=>h
def C_(g:af->af->af->af->aw af)(p q:dP):aw dP:=vS (g p.y q.z p.z q.y) (g p.z q.x p.x q.z)<|g p.x q.y p.y q.x
abbrev spCr(K:aq)(M CK fD:ak)(k:aB)(g:af->af->af->af->aw af):Sp:=c7 M (aQ (RK CK k)<|aQ (RF fD) (aQ (R3 K k)<|aQ (R3 K k) cq)) (R3 K k) λx=>C_ g x.2.2.1 x.2.2.2.1
theorem SN{A:fV τ}{t:aw τ}{f:τ->aw α}(h0:NT C E (RF fD) (L ()) σ H te)(h:NA C E A t σ H ta):NT C E R (t.bind f) σ H<|NW fD (c7 C A R f) E te ta:=λU Q s k=>by
 refine(h0.at_ s).go λv H2 s2 q=>⟨q,?_⟩;exact h H2 _ (s.trans s2) ⟨λH3 vs y s3 e q3=>⟨y,by rw[o8];exact q3,(k.at_<|s2.trans s3).eq (by rw[e];rfl)⟩,λH3 s3 e=>k.no H3 (s2.trans s3) (by rw[e];rfl)⟩
theorem Bb(h:NT M E (RF fD) (L ()) σ H te)(h0:NT M E (RK CK k) (L ()) σ H t0)(h1:NT M E (RC K k) (L a) σ H t1)(h2:NT M E (RC K k) (L b) σ H t2)(h3:NT M E (RC K k) (L c) σ H t3)(h4:NT M E (RC K k) (L d) σ H t4):NT M E (RC K k) (g a b c d) σ H (NW fD (EG K M CK k g) E te<|aU t0 (aU t1<|aU t2 (aU t3<|aU t4 b8))):=SN (f:=λx=>g x.2.1 x.2.2.1 x.2.2.2.1 x.2.2.2.2.1) h<|aF aM h0 (aF aI h1<|aF aI h2 (aF aI h3<|aF aI h4 bQ))
theorem UO:bE ["kind","difference","a","b"] ["kind","difference","a","b"] (bw<|aN 25):=fs
theorem Tc(F:bz K "crossed" "crossed" (aN 25) f fd)(k:aB)(g:af->af->af->af->aw af)(OD:aD P w K mg base (aO P w M) 5 fD fdD ["kind","p","q","r","s"]<|EG K M CK k g)(kD:jn K (.ref fD)=ao)(bD:Binds K fdD ["kind","p","q","r","s"] []):aD P w K mg base (aO P w M) 6 f fd ["kind","difference","a","b"]<|spCr K M CK fD k g:=by
 refine F.oc UO λH Q E hr h=>?_;obtain⟨⟨_,_,p3,p4,_⟩,⟨w1,r1,rfl,h1,w2,r2,rfl,h2,w3,r3,rfl,h3,w4,r4,rfl,h4,rfl⟩,kk⟩:=h
 refine⟨_,aR<|bg (fO (dz (ze (O 1) OD hr kD bD aA (dz (O 0) (dz (aX<|O 2) (bF (aX<|O 3) (aX<|O 2) (aX<|O 3)))))
  (dz (ze (O 1) OD hr kD bD aA (dz (O 0) (dz (aX<|O 2) (bF (aX<|O 3) (aX<|O 2) (aX<|O 3)))))
  (bu<|ze (O 1) OD hr kD bD aA (dz (O 0) (dz (aX<|O 2) (bF (aX<|O 3) (aX<|O 2) (aX<|O 3)))))))),?_⟩
 have v0:NT M E (RK CK k) (L ()) [L w1,L w2,L w3,L w4] H<|au 0:=aj J aM h1;have v1:NT M E (RF fD) (L ()) [L w1,L w2,L w3,L w4] H<|au 1:=aj J kH h2;have v2:NT M E (R3 K k) (L p3) [L w1,L w2,L w3,L w4] H<|au 2:=aj J bR h3;have v3:NT M E (R3 K k) (L p4) [L w1,L w2,L w3,L w4] H<|au 3:=aj J bR h4;exact kk.by (pN (Bb v1 v0 (jd v2) (je v3) (je v2)<|jd v3) (Bb v1 v0 (je v2) (jc v3) (jc v2)<|je v3) (Bb (g:=g) v1 v0 (jc v2) (jd v3) (jd v2)<|jc v3))
theorem UN:bE ["kind","a","b"] ["kind","a","b"] (bw<|aN 28):=fs
theorem sc_moment:bE ["kind","a","b"] ["kind","a","b"] (bw<|aN 29):=fs
theorem ok_cross(F:bz K "cross" "cross" (aN 28) f fd)(aJ:KM P w K mg base M CK)(G1:Gf K mg "crossed" (aN 25) f1 bZ ["kind","difference","a","b"])(G2:Gf K mg "plain_difference" (aN 26) f2 dg ["kind","p","q","r","s"])(k:aB):aD P w K mg base (aO P w M) 7 f fd ["kind","a","b"] (qK K M CK k<|kU k):=by
 have O2:=Tf G2.F aJ k;have O1:=Tc G1.F k _ O2 G2.F.kp G2.b;refine F.oc UN λH Q E hr h=>?_;obtain⟨⟨_,p2,p3,_⟩,⟨w1,r1,rfl,h1,w2,r2,rfl,h2,w3,r3,rfl,h3,rfl⟩,kk⟩:=h;refine⟨_,aR<|bg (cJ O1 hr J G1.m G1.F.kp G1.b .nil aA<|dz (O 0) (bF (dF J G2.m (v:=.ref f2) J) (O 1)<|O 2)),?_⟩;exact kk.by<|cP (t:=L ((),(),p2,p3,())) (f:=λx=>C_ (KR k) x.2.2.1 x.2.2.2.1) (aF aM (aj J aM h1)<|aF kH (iH kH J) (aF bR (aj J bR h2)<|aF bR (aj J bR h3) bQ))
theorem ok_moment(F:bz K "moment" "moment" (aN 29) f fd)(aJ:KM P w K mg base M CK)(G1:Gf K mg "crossed" (aN 25) f1 bZ ["kind","difference","a","b"])(G2:Gf K mg "mended_difference" (aN 27) f2 dg ["kind","p","q","r","s"])(k:aB):aD P w K mg base (aO P w M) 7 f fd ["kind","a","b"] (qK K M CK k<|rD k):=by
 have O2:=ok_mended G2.F aJ k;have O1:=Tc G1.F k _ O2 G2.F.kp G2.b;refine F.oc sc_moment λH Q E hr h=>?_;obtain⟨⟨_,p2,p3,_⟩,⟨w1,r1,rfl,h1,w2,r2,rfl,h2,w3,r3,rfl,h3,rfl⟩,kk⟩:=h;refine⟨_,aR<|bg (cJ O1 hr J G1.m G1.F.kp G1.b .nil aA<|dz (O 0) (bF (dF J G2.m (v:=.ref f2) J) (O 1)<|O 2)),?_⟩;exact kk.by<|cP (t:=L ((),(),p2,p3,())) (f:=λx=>C_ _ x.2.2.1 x.2.2.2.1) (aF aM (aj J aM h1)<|aF kH (iH kH J) (aF bR (aj J bR h2)<|aF bR (aj J bR h3) bQ))
end
end BW
namespace BW
open PySem PySem.Spec PyProof.Rows L2
open Bw (bS cQ bf cn)
def jo(K:aq)(k:aB):bO<|af×af:=λH v p=>∃a x y,v= .ref a/\cD K H a [x,y]/\RN K k H x p.1/\RN K k H y p.2
def R2(K:aq)(k:aB):bO<|af×af:=λH v p=>∃a x y,v= .ref a/\cD K H a [x,y]/\RC K k H x p.1/\RC K k H y p.2
def xQ(K:aq)(k:aB):bO tG:=λH v q=>∃a w x y z,v= .ref a/\cD K H a [w,x,y,z]/\RN K k H w q.w/\RN K k H x q.x/\RN K k H y q.y/\RN K k H z q.z
def R4(K:aq)(k:aB):bO tG:=λH v q=>∃a w x y z,v= .ref a/\cD K H a [w,x,y,z]/\RC K k H w q.w/\RC K k H x q.x/\RC K k H y q.y/\RC K k H z q.z
def tE(K:aq)(k:aB):bO tG:=λH v q=>∃a w x y z,v= .ref a/\(SqL K H a [w,x,y,z]\/cD K H a [w,x,y,z])/\RC K k H w q.w/\RC K k H x q.x/\RC K k H y q.y/\RC K k H z q.z
section
variable{K:aq}{k:aB}
theorem gD:cV<|jo K k:=λ_ _ _ _ s⟨a,x,y,e,h,h1,h2⟩=>⟨a,x,y,e,s.tup h,eK.up s h1,eK.up s h2⟩
theorem gY:cV<|R2 K k:=λ_ _ _ _ s⟨a,x,y,e,h,h1,h2⟩=>⟨a,x,y,e,s.tup h,aI.up s h1,aI.up s h2⟩
theorem yO:cV<|xQ K k:=λ_ _ _ _ s⟨a,w,x,y,z,e,h,h1,h2,h3,h4⟩=>⟨a,w,x,y,z,e,s.tup h,eK.up s h1,eK.up s h2,eK.up s h3,eK.up s h4⟩
theorem gu:cV<|R4 K k:=λ_ _ _ _ s⟨a,w,x,y,z,e,h,h1,h2,h3,h4⟩=>⟨a,w,x,y,z,e,s.tup h,aI.up s h1,aI.up s h2,aI.up s h3,aI.up s h4⟩
theorem lE:cV<|tE K k:=λ_ _ _ _ s⟨a,w,x,y,z,e,h,h1,h2,h3,h4⟩=>⟨a,w,x,y,z,e,h.imp (λq=>s.seq q) λq=>s.tup q,aI.up s h1,aI.up s h2,aI.up s h3,aI.up s h4⟩
theorem r4s_of(h:R4 K k H v q):tE K k H v q:=by
 obtain⟨a,w,x,y,z,e,h,r⟩:=h;exact⟨a,w,x,y,z,e,.inr h,r⟩
end
section
variable{K:aq}{M CK:ak}{E:XK}{σ:L2.St}{H:Hp}{te t1 t2 t3 t4:TE}{k:aB}
theorem He(h:NT M E (jo K k) (L p) σ H te):NT M E (RN K k) (L p.1) σ H<|bY (dI K) te (tC<|.int 0):=ka 0 h λ_ _⟨a,x,y,e,q,h1,_⟩=>⟨a,_,x,e,q,J,h1⟩
theorem Hf(h:NT M E (jo K k) (L p) σ H te):NT M E (RN K k) (L p.2) σ H<|bY (dI K) te (tC<|.int 1):=ka 1 h λ_ _⟨a,x,y,e,q,_,h1⟩=>⟨a,_,y,e,q,J,h1⟩
theorem wU(h:NT M E (R2 K k) (L p) σ H te):NT M E (RC K k) (L p.1) σ H<|bY (dI K) te (tC<|.int 0):=ka 0 h λ_ _⟨a,x,y,e,q,h1,_⟩=>⟨a,_,x,e,q,J,h1⟩
theorem wV(h:NT M E (R2 K k) (L p) σ H te):NT M E (RC K k) (L p.2) σ H<|bY (dI K) te (tC<|.int 1):=ka 1 h λ_ _⟨a,x,y,e,q,_,h1⟩=>⟨a,_,y,e,q,J,h1⟩
theorem nt_4nw(h:NT M E (xQ K k) (L q) σ H te):NT M E (RN K k) (L q.w) σ H<|bY (dI K) te (tC<|.int 0):=ka 0 h λ_ _⟨a,w,x,y,z,e,r,h1,h2,h3,h4⟩=>⟨a,_,w,e,r,J,h1⟩
theorem nt_4nx(h:NT M E (xQ K k) (L q) σ H te):NT M E (RN K k) (L q.x) σ H<|bY (dI K) te (tC<|.int 1):=ka 1 h λ_ _⟨a,w,x,y,z,e,r,h1,h2,h3,h4⟩=>⟨a,_,x,e,r,J,h2⟩
theorem nt_4ny(h:NT M E (xQ K k) (L q) σ H te):NT M E (RN K k) (L q.y) σ H<|bY (dI K) te (tC<|.int 2):=ka 2 h λ_ _⟨a,w,x,y,z,e,r,h1,h2,h3,h4⟩=>⟨a,_,y,e,r,J,h3⟩
theorem nt_4nz(h:NT M E (xQ K k) (L q) σ H te):NT M E (RN K k) (L q.z) σ H<|bY (dI K) te (tC<|.int 3):=ka 3 h λ_ _⟨a,w,x,y,z,e,r,h1,h2,h3,h4⟩=>⟨a,_,z,e,r,J,h4⟩
theorem DV(h:NT M E (R4 K k) (L q) σ H te):NT M E (RC K k) (L q.w) σ H<|bY (dI K) te (tC<|.int 0):=ka 0 h λ_ _⟨a,w,x,y,z,e,r,h1,h2,h3,h4⟩=>⟨a,_,w,e,r,J,h1⟩
theorem DW(h:NT M E (R4 K k) (L q) σ H te):NT M E (RC K k) (L q.x) σ H<|bY (dI K) te (tC<|.int 1):=ka 1 h λ_ _⟨a,w,x,y,z,e,r,h1,h2,h3,h4⟩=>⟨a,_,x,e,r,J,h2⟩
theorem DX(h:NT M E (R4 K k) (L q) σ H te):NT M E (RC K k) (L q.y) σ H<|bY (dI K) te (tC<|.int 2):=ka 2 h λ_ _⟨a,w,x,y,z,e,r,h1,h2,h3,h4⟩=>⟨a,_,y,e,r,J,h3⟩
theorem DY(h:NT M E (R4 K k) (L q) σ H te):NT M E (RC K k) (L q.z) σ H<|bY (dI K) te (tC<|.int 3):=ka 3 h λ_ _⟨a,w,x,y,z,e,r,h1,h2,h3,h4⟩=>⟨a,_,z,e,r,J,h4⟩
theorem wZ{R':bO β}{x:α}(j:af)(h0:NT M E R' (L y) σ H te)(hi:∀U v,R' U v y-> ∃p xs u,v= .ref p/\(SqL K U p xs\/cD K U p xs)/\xs[j]? =L u/\R U u x):NT M E R (L x) σ H<|bY (sF K) te (tC<|.int j):=λU Q s k=>by
 refine(h0.at_ s).go λv H2 s2 q=>?_;obtain⟨p,xs,u,e1,e2,e3,e4⟩:=hi H2 v q;rcases e2 with e2|e2
 ·exact .inl ⟨p,xs,j,u,e1,J,e2,tO e3,k.ok H2 u x s2 J e4⟩
 ·exact .inr<|.inl ⟨p,xs,j,u,e1,J,e2,tO e3,k.ok H2 u x s2 J e4⟩
theorem S'(h:NT M E (tE K k) (L q) σ H te):NT M E (RC K k) (L q.w) σ H<|bY (sF K) te (tC<|.int 0):=wZ 0 h λ_ _⟨a,w,x,y,z,e,r,h1,h2,h3,h4⟩=>⟨a,_,w,e,r,J,h1⟩
theorem S_(h:NT M E (tE K k) (L q) σ H te):NT M E (RC K k) (L q.x) σ H<|bY (sF K) te (tC<|.int 1):=wZ 1 h λ_ _⟨a,w,x,y,z,e,r,h1,h2,h3,h4⟩=>⟨a,_,x,e,r,J,h2⟩
theorem Ta(h:NT M E (tE K k) (L q) σ H te):NT M E (RC K k) (L q.y) σ H<|bY (sF K) te (tC<|.int 2):=wZ 2 h λ_ _⟨a,w,x,y,z,e,r,h1,h2,h3,h4⟩=>⟨a,_,y,e,r,J,h3⟩
theorem Tb(h:NT M E (tE K k) (L q) σ H te):NT M E (RC K k) (L q.z) σ H<|bY (sF K) te (tC<|.int 3):=wZ 3 h λ_ _⟨a,w,x,y,z,e,r,h1,h2,h3,h4⟩=>⟨a,_,z,e,r,J,h4⟩
theorem Hs(h1:NT M E (RC K k) r σ H t1)(h2:NT M E (RC K k) s σ H t2):NT M E (R2 K k) (r.bind λa=>s.map λb=>(a,b)) σ H<|kN (aU t1<|aU t2 b8):=NT.eq (y' (f:=λx=>L (x.1,x.2.1)) (aF aI h1<|aF aI h2 bQ)
  (λ_ _ _⟨v,r,e,_,v2,r2,e2,_,e4⟩=>by subst e e2 e4;show 2<=bH;decide)
  (λ_ _ y p⟨v,r,e,q1,v2,r2,e2,q2,e4⟩hp=>by subst e e2 e4;exact⟨_,J,p,v,v2,J,cD.of hp,q1,q2⟩)
  (mq aI<|mq aI yR))<|by cases r<;>cases s<;>rfl
theorem S6(h1:NT M E (RN K k) (L a) σ H t1)(h2:NT M E (RN K k) (L b) σ H t2):NT M E (jo K k) (L (a,b)) σ H<|kN (aU t1<|aU t2 b8):=y' (f:=λx=>L (x.1,x.2.1)) (aF eK h1<|aF eK h2 bQ)
  (λ_ _ _⟨v,r,e,_,v2,r2,e2,_,e4⟩=>by subst e e2 e4;show 2<=bH;decide)
  (λ_ _ y p⟨v,r,e,q1,v2,r2,e2,q2,e4⟩hp=>by subst e e2 e4;exact⟨_,J,p,v,v2,J,cD.of hp,q1,q2⟩)
  (mq eK<|mq eK yR)
theorem L8(h1:NT M E (RC K k) r σ H t1)(h2:NT M E (RC K k) s σ H t2)(h3:NT M E (RC K k) t σ H t3)(h4:NT M E (RC K k) u σ H t4):NT M E (R4 K k) (r.bind λw=>s.bind λx=>t.bind λy=>u.map λz=>⟨w,x,y,z⟩) σ H<|kN (aU t1<|aU t2 (aU t3<|aU t4 b8)):=NT.eq (y' (f:=λx=>L ⟨x.1,x.2.1,x.2.2.1,x.2.2.2.1⟩) (aF aI h1<|aF aI h2 (aF aI h3<|aF aI h4 bQ))
  (λ_ _ _⟨v,r,e,_,v2,r2,e2,_,v3,r3,e3,_,v4,r4,e4,_,e5⟩=>by subst e e2 e3 e4 e5;show 4<=bH;decide)
  (λ_ _ y p⟨v,r,e,q1,v2,r2,e2,q2,v3,r3,e3,q3,v4,r4,e4,q4,e5⟩hp=>by subst e e2 e3 e4 e5;exact⟨_,J,p,v,v2,v3,v4,J,cD.of hp,q1,q2,q3,q4⟩)
  (mq aI<|mq aI (mq aI<|mq aI yR)))<|by cases r<;>cases s<;>cases t<;>cases u<;>rfl
end
abbrev Ni(K:aq)(M CK:ak)(k:aB)(g:af×af->af×af->aw (af×af)):Sp:=c7 M (aQ (RK CK k) (aQ (jo K k)<|aQ (R2 K k) cq)) (R2 K k) λx=>g x.2.1 x.2.2.1
section
variable{P:cN}{w:World}{K:aq}{mg:ax->aw aE}{base:b9}{M CK:ak}
theorem MY:bE ["kind","p","q","u","v"] ["kind","p","q"] (bw<|aN 33):=fs
theorem MZ:bE ["kind","p","q","u","v"] ["kind","p","q"] (bw<|aN 34):=fs
theorem ok_cx{f:ak}{fd:cX}(F:bz K "complex_product" "complex_product" (aN 33) f fd)(aJ:KM P w K mg base M CK)(k:aB):aD P w K mg base (aO P w M) 5 f fd ["kind","p","q"] (Ni K M CK k<|FA k):=by
 obtain⟨f1,bZ,M1,b1,O1⟩:=aJ.mul;obtain⟨f2,dg,M2,b2,O2⟩:=aJ.ms;obtain⟨f3,fh,M3,b3,O3⟩:=aJ.ma;refine F.oc MY λH Q E hr h=>?_;obtain⟨⟨_,p,q,_⟩,⟨w1,r1,rfl,h1,w2,r2,rfl,h2,w3,r3,rfl,h3,rfl⟩,kk⟩:=h
 refine⟨_,aG (bA 3 MY.nd<|bV (O 0) aJ.T.cl M1 (O1 k) hr b1 .nil aA (bJ (aX<|O 1) (aX<|O 2)))
  (aG (bA 4 MY.nd<|bV (O 0) aJ.T.cl M1 (O1 k) hr b1 .nil aA (bJ (aX<|O 1) (aX<|O 2)))
  (aR (bg (fO (dz (bV (O 0) aJ.T.cl M2 (O2 k) hr b2 .nil aA (bF (aX<|O 1) (aX<|O 2)<|O 3))
    (bu<|bV (O 0) aJ.T.cl M3 (O3 k) hr b3 .nil aA (bF (aX<|O 1) (aX<|O 2)<|O 4))))))),?_⟩
 have wk:∀H v y,RC K k H v y->RN K k H v y:=λ_ _ _ z=>dS h1.1 z;refine bW.bind (rb:=ir k p.2 q.2) kk (pM (g:=ir k) uw (aj J aM h1) (Hf<|aj J gD h2)<|(wV<|aj J gY h3).cW wk) λy1 u1 U s1 _ q1 k1=>?_;refine bW.bind (rb:=ir k p.2 q.1) k1 (pM (g:=ir k) uw (aj J aM<|aM.up s1 h1) (Hf (aj J gD<|gD.up s1 h2))<|(wU (aj J gY<|gY.up s1 h3)).cW wk) λy2 u2 H2 s2 _ q2 k2=>?_;have v0:NT M E (RK CK k) (L ()) [L w1,L w2,L w3,L u1,L u2] H2<|au 0:=aj J aM<|aM _ _ _ _ (s1.trans s2) h1;have v1:NT M E (jo K k) (L p) [L w1,L w2,L w3,L u1,L u2] H2<|au 1:=aj J gD<|gD _ _ _ _ (s1.trans s2) h2;have v2:NT M E (R2 K k) (L q) [L w1,L w2,L w3,L u1,L u2] H2<|au 2:=aj J gY<|gY _ _ _ _ (s1.trans s2) h3;exact k2.by (Hs (r:=vT k p.1 q.1 y1) (s:=tH k p.1 q.2 y2) (uB (g:=vT k) LW v0 (He v1) ((wU v2).cW wk)<|(aj J aI<|aI.up s2 q1).cW wk) (uB (g:=tH k) G9 v0 (He v1) ((wV v2).cW wk)<|(aj J aI q2).cW wk))
theorem ok_cy{f:ak}{fd:cX}(F:bz K "mirror_product" "mirror_product" (aN 34) f fd)(aJ:KM P w K mg base M CK)(k:aB):aD P w K mg base (aO P w M) 5 f fd ["kind","p","q"] (Ni K M CK k<|FC k):=by
 obtain⟨f1,bZ,M1,b1,O1⟩:=aJ.mul;obtain⟨f2,dg,M2,b2,O2⟩:=aJ.ms;obtain⟨f3,fh,M3,b3,O3⟩:=aJ.ma;refine F.oc MZ λH Q E hr h=>?_;obtain⟨⟨_,p,q,_⟩,⟨w1,r1,rfl,h1,w2,r2,rfl,h2,w3,r3,rfl,h3,rfl⟩,kk⟩:=h
 refine⟨_,aG (bA 3 MZ.nd<|bV (O 0) aJ.T.cl M1 (O1 k) hr b1 .nil aA (bJ (aX<|O 1) (aX<|O 2)))
  (aG (bA 4 MZ.nd<|bV (O 0) aJ.T.cl M1 (O1 k) hr b1 .nil aA (bJ (aX<|O 1) (aX<|O 2)))
  (aR (bg (fO (dz (bV (O 0) aJ.T.cl M3 (O3 k) hr b3 .nil aA (bF (aX<|O 1) (aX<|O 2)<|O 3))
    (bu<|bV (O 0) aJ.T.cl M2 (O2 k) hr b2 .nil aA (bF (aX<|O 1) (aX<|O 2)<|O 4))))))),?_⟩
 have wk:∀H v y,RC K k H v y->RN K k H v y:=λ_ _ _ z=>dS h1.1 z;refine bW.bind (rb:=ir k p.2 q.2) kk (pM (g:=ir k) uw (aj J aM h1) (Hf<|aj J gD h2)<|(wV<|aj J gY h3).cW wk) λy1 u1 U s1 _ q1 k1=>?_;refine bW.bind (rb:=ir k p.1 q.2) k1 (pM (g:=ir k) uw (aj J aM<|aM.up s1 h1) (He (aj J gD<|gD.up s1 h2))<|(wV (aj J gY<|gY.up s1 h3)).cW wk) λy2 u2 H2 s2 _ q2 k2=>?_;have v0:NT M E (RK CK k) (L ()) [L w1,L w2,L w3,L u1,L u2] H2<|au 0:=aj J aM<|aM _ _ _ _ (s1.trans s2) h1;have v1:NT M E (jo K k) (L p) [L w1,L w2,L w3,L u1,L u2] H2<|au 1:=aj J gD<|gD _ _ _ _ (s1.trans s2) h2;have v2:NT M E (R2 K k) (L q) [L w1,L w2,L w3,L u1,L u2] H2<|au 2:=aj J gY<|gY _ _ _ _ (s1.trans s2) h3;exact k2.by (Hs (r:=tH k p.1 q.1 y1) (s:=vT k p.2 q.1 y2) (uB (g:=tH k) G9 v0 (He v1) ((wU v2).cW wk)<|(aj J aI<|aI.up s2 q1).cW wk) (uB (g:=vT k) LW v0 (Hf v1) ((wU v2).cW wk)<|(aj J aI q2).cW wk))
end
end BW
namespace BW
open PySem PySem.Spec PyProof.Rows L2
open Bw (bS cQ bf cn gx jJ)
theorem jP{R:bO α}(h:NT C E R (L y) σ H te)(hq:∀v U,az H U->R U v y->u D (σ.set i<|L v) U):oS (jU te<|eE i) u D σ H:=h.go hq
section
variable(P:cN)(w:World)(K:aq)(mg:ax->aw aE)(base:b9)(M CK:ak)
structure VM:Prop where
 aJ:KM P w K mg base M CK
 add:cU P w K mg base M 7 "added" ["kind","a","b"] λk=>qK K M CK k (iR k)
 sub:cU P w K mg base M 7 "taken_off" ["kind","a","b"] λk=>qK K M CK k (wK k)
 each:cU P w K mg base M 7 "each_times" ["kind","a","b"] λk=>qK K M CK k (xY k)
 M9:cU P w K mg base M 7 "scaled" ["kind","c","d"] λk=>Nh K M CK k (vV k)
 Zi:cU P w K mg base M 7 "divided" ["kind","d","c"] λk=>Nj K M CK k (Pp k)
 along:cU P w K mg base M 7 "along" ["kind","p","c","d"] λk=>EF K M CK k (λp c d=>iY k c d p)
 against:cU P w K mg base M 7 "against" ["kind","p","c","d"] λk=>EF K M CK k (λp c d=>xW k c d p)
 dot:cU P w K mg base M 7 "dot" ["kind","a","b"] λk=>Nk K M CK k (lX k)
 cross:cU P w K mg base M 7 "cross" ["kind","a","b"] λk=>qK K M CK k (kU k)
 moment:cU P w K mg base M 7 "moment" ["kind","a","b"] λk=>qK K M CK k<|rD k
end
section
variable{K:aq}{M CK:ak}{E:XK}{σ:L2.St}{H:Hp}{t0 t1 t2 t3:TE}{k:aB}
theorem kJ(h0:NT M E (RK CK k) (L ()) σ H t0)(h1:NT M E (R3 K k) r σ H t1)(h2:NT M E (R3 K k) s σ H t2):NT M E (R3 K k) (r.bind λa=>s.bind λb=>g a b) σ H (d8 (qK K M CK k g) [] E<|aU t0 (aU t1<|aU t2 b8)):=NT.eq (cP<|aF aM h0 (aF bR h1<|aF bR h2 bQ))<|by cases r<;>cases s<;>rfl
theorem yW(h0:NT M E (RK CK k) (L ()) σ H t0)(h1:NT M E (R3 K k) r σ H t1)(h2:NT M E (RC K k) c σ H t2)(h3:NT M E (R3 K k) s σ H t3):NT M E (R3 K k) (r.bind λa=>c.bind λx=>s.bind λb=>g a x b) σ H<|d8 (EF K M CK k g) [] E (aU t0<|aU t1 (aU t2<|aU t3 b8)):=NT.eq (cP (aF aM h0<|aF bR h1 (aF aI h2<|aF bR h3 bQ)))<|by cases r<;>cases c<;>cases s<;>rfl
theorem Hk(h0:NT M E (RK CK k) (L ()) σ H t0)(h1:NT M E (jo K k) (L a) σ H t1)(h2:NT M E (R2 K k) (L b) σ H t2):NT M E (R2 K k) (g a b) σ H (d8 (Ni K M CK k g) [] E<|aU t0 (aU t1<|aU t2 b8)):=cP (f:=λx=>g x.2.1 x.2.2.1)<|aF aM h0 (aF gD h1<|aF gY h2 bQ)
end
section
variable{P:cN}{w:World}{K:aq}{mg:ax->aw aE}{base:b9}{M CK:ak}
abbrev Vu(K:aq)(M CK:ak)(k:aB):Sp:=c7 M (aQ (RK CK k) (aQ (xQ K k)<|aQ (R4 K k) cq)) (R4 K k) λx=>Ct k x.2.1 x.2.2.1
theorem uV:bE ["kind","s","t","a","b","c","d","ac","bd","ad","bc"] ["kind","s","t"] (bw<|aN 35):=fs
theorem ok_tp{f f3 f4:ak}{fd fh hU:cX}(F:bz K "turn_product" "turn_product" (aN 35) f fd)(aJ:KM P w K mg base M CK)(G3:Gf K mg "complex_product" (aN 33) f3 fh ["kind","p","q"])(G4:Gf K mg "mirror_product" (aN 34) f4 hU ["kind","p","q"])(k:aB):aD P w K mg base (aO P w M) 6 f fd ["kind","s","t"]<|Vu K M CK k:=by
 obtain⟨f1,bZ,M1,b1,O1'⟩:=aJ.sub;obtain⟨f2,dg,M2,b2,O2'⟩:=aJ.add;have O1:=(O1' k).aV (k:=5) dc;have O2:=(O2' k).aV (k:=5) dc;have O3:=ok_cx (P:=P) (w:=w) (base:=base) G3.F aJ k;have O4:=ok_cy (P:=P) (w:=w) (base:=base) G4.F aJ k;refine F.oc uV λH Q E hr h=>?_;obtain⟨⟨_,p,q,_⟩,⟨w1,r1,rfl,h1,w2,r2,rfl,h2,w3,r3,rfl,h3,rfl⟩,kk⟩:=h
 refine⟨_,aG (bA 3 uV.nd<|fO (bJ (aX<|O 1) (aX<|O 1)))
  (aG (bA 4 uV.nd<|fO (bJ (aX<|O 1) (aX<|O 1)))
  (aG (bA 5 uV.nd<|fO (bJ (aX<|O 2) (aX<|O 2)))
  (aG (bA 6 uV.nd<|fO (bJ (aX<|O 2) (aX<|O 2)))
  (aG (bA 7 uV.nd<|cJ O3 hr J G3.m G3.F.kp G3.b .nil aA (bF (O 0) (O 3)<|O 5))
  (aG (bA 8 uV.nd<|cJ O4 hr J G4.m G4.F.kp G4.b .nil aA (bF (O 0) (O 4)<|O 6))
  (aG (bA 9 uV.nd<|cJ O3 hr J G3.m G3.F.kp G3.b .nil aA (bF (O 0) (O 3)<|O 6))
  (aG (bA 10 uV.nd<|cJ O4 hr J G4.m G4.F.kp G4.b .nil aA (bF (O 0) (O 4)<|O 5))
  (aR (bg (fO (dz (bV (O 0) aJ.T.cl M1 O1 hr b1 .nil aA (bJ (aX<|O 7) (aX<|O 8)))
    (dz (bV (O 0) aJ.T.cl M1 O1 hr b1 .nil aA (bJ (aX<|O 7) (aX<|O 8)))
    (dz (bV (O 0) aJ.T.cl M2 O2 hr b2 .nil aA (bJ (aX<|O 9) (aX<|O 10)))
    (bu<|bV (O 0) aJ.T.cl M2 O2 hr b2 .nil aA (bJ (aX<|O 9) (aX<|O 10)))))))))))))))),?_⟩
 have n1:NT M E (jo K k) (L (p.w,p.x)) [L w1,L w2,L w3,ah,ah,ah,ah,ah,ah,ah,ah] H (kN<|aU (bY (dI K) (au 1) (tC<|.int 0))<|aU (bY (dI K) (au 1) (tC<|.int 1)) b8):=S6 (nt_4nw<|aj J yO h2) (nt_4nx<|aj J yO h2);refine jP n1 λu3 H3 s3 q3=>?_;have n2:NT M E (jo K k) (L (p.y,p.z)) [L w1,L w2,L w3,L u3,ah,ah,ah,ah,ah,ah,ah] H3 (kN<|aU (bY (dI K) (au 1) (tC<|.int 2))<|aU (bY (dI K) (au 1) (tC<|.int 3)) b8):=S6 (nt_4ny (aj J yO<|yO.up s3 h2))<|nt_4nz (aj J yO<|yO.up s3 h2);refine jP n2 λu4 H4 s4 q4=>?_;have KZ:=gu _ _ _ _ (s3.trans s4) h3;have n3:NT M E (R2 K k) (L (q.w,q.x)) [L w1,L w2,L w3,L u3,L u4,ah,ah,ah,ah,ah,ah] H4 (kN<|aU (bY (dI K) (au 2) (tC<|.int 0))<|aU (bY (dI K) (au 2) (tC<|.int 1)) b8):=Hs (r:=L q.w) (s:=L q.x) (DV<|aj J gu KZ) (DW<|aj J gu KZ);refine jP n3 λu5 H5 s5 q5=>?_;have QS:=gu.up s5 KZ;have n4:NT M E (R2 K k) (L (q.y,q.z)) [L w1,L w2,L w3,L u3,L u4,L u5,ah,ah,ah,ah,ah] H5 (kN<|aU (bY (dI K) (au 2) (tC<|.int 2))<|aU (bY (dI K) (au 2) (tC<|.int 3)) b8):=Hs (r:=L q.y) (s:=L q.z) (DX<|aj J gu QS) (DY<|aj J gu QS);refine jP n4 λu6 H6 s6 q6=>?_;have Uo:=((s3.trans s4).trans s5).trans s6;have k6:=aM.up Uo h1;have a6:=gD _ _ _ _ ((s4.trans s5).trans s6) q3;have b6:=gD _ _ _ _ (s5.trans s6) q4;have c6:=gY.up s6 q5;refine bW.bind (rb:=FA k (p.w,p.x) (q.w,q.x)) (kk.at_ Uo) (Hk (g:=FA k) (σ:=[L w1,L w2,L w3,L u3,L u4,L u5,L u6,ah,ah,ah,ah]) (aj J aM k6) (aj J gD a6)<|aj J gY c6) λy7 u7 H7 s7 _ q7 k7=>?_;refine bW.bind (rb:=FC k (p.y,p.z) (q.y,q.z)) k7 (Hk (g:=FC k) (σ:=[L w1,L w2,L w3,L u3,L u4,L u5,L u6,L u7,ah,ah,ah]) (aj J aM<|aM.up s7 k6) (aj J gD<|gD.up s7 b6) (aj J gY<|gY.up s7 q6)) λy8 u8 H8 s8 _ q8 k8=>?_;have HN:=s7.trans s8;refine bW.bind (rb:=FA k (p.w,p.x) (q.y,q.z)) k8 (Hk (g:=FA k) (σ:=[L w1,L w2,L w3,L u3,L u4,L u5,L u6,L u7,L u8,ah,ah]) (aj J aM<|aM.up HN k6) (aj J gD<|gD.up HN a6) (aj J gY<|gY.up HN q6)) λy9 u9 H9 s9 _ q9 k9=>?_;have HP:=HN.trans s9;refine bW.bind (rb:=FC k (p.y,p.z) (q.w,q.x)) k9 (Hk (g:=FC k) (σ:=[L w1,L w2,L w3,L u3,L u4,L u5,L u6,L u7,L u8,L u9,ah]) (aj J aM<|aM.up HP k6) (aj J gD<|gD.up HP b6) (aj J gY<|gY.up HP c6)) λN9 ER xG Bq _ q10 k10=>?_;have v0:NT M E (RK CK k) (L ()) [L w1,L w2,L w3,L u3,L u4,L u5,L u6,L u7,L u8,L u9,L ER] xG<|au 0:=aj J aM<|aM _ _ _ _ (HP.trans Bq) k6;have v7:NT M E (R2 K k) (L y7) [L w1,L w2,L w3,L u3,L u4,L u5,L u6,L u7,L u8,L u9,L ER] xG<|au 7:=aj J gY<|gY _ _ _ _ ((s8.trans s9).trans Bq) q7;have v8:NT M E (R2 K k) (L y8) [L w1,L w2,L w3,L u3,L u4,L u5,L u6,L u7,L u8,L u9,L ER] xG<|au 8:=aj J gY<|gY _ _ _ _ (s9.trans Bq) q8;have v9:NT M E (R2 K k) (L y9) [L w1,L w2,L w3,L u3,L u4,L u5,L u6,L u7,L u8,L u9,L ER] xG<|au 9:=aj J gY<|gY.up Bq q9;have Wb:NT M E (R2 K k) (L N9) [L w1,L w2,L w3,L u3,L u4,L u5,L u6,L u7,L u8,L u9,L ER] xG<|au 10:=aj J gY q10;exact k10.by (L8 (r:=Cr k y7.1 y8.1) (s:=Cr k y7.2 y8.2) (t:=eU k y9.1 N9.1) (u:=eU k y9.2 N9.2) (Bd h1.1 v0 (wU v7)<|wU v8) (Bd h1.1 v0 (wV v7)<|wV v8) (uy h1.1 v0 (wU v9)<|wU Wb) (uy h1.1 v0 (wV v9)<|wV Wb))
abbrev IH(K:aq)(M CK:ak)(k:aB):Sp:=c7 M (aQ (RK CK k)<|aQ (tE K k) cq) (RC K k) λx=>yb k x.2.1
theorem Ij:bE ["kind","t","s"] ["kind","t"] (bw<|aN 36):=fs
theorem Tn{f:ak}{fd:cX}(F:bz K "turn_square" "turn_square" (aN 36) f fd)(aJ:KM P w K mg base M CK)(k:aB):aD P w K mg base (aO P w M) 5 f fd ["kind","t"]<|IH K M CK k:=by
 obtain⟨f1,bZ,M1,b1,O1⟩:=aJ.mul;obtain⟨f2,dg,M2,b2,O2⟩:=aJ.ma;refine F.oc Ij λH Q E hr h=>?_;obtain⟨⟨_,q,_⟩,⟨w1,r1,rfl,h1,w2,r2,rfl,h2,rfl⟩,kk⟩:=h
 refine⟨_,aG (bA 2 Ij.nd<|bV (O 0) aJ.T.cl M1 (O1 k) hr b1 .nil aA (bJ (dY jb (O 1) a_ λ_ _=>J)<|dY jb (O 1) a_ λ_ _=>J))
  (aG (bA 2 Ij.nd<|bV (O 0) aJ.T.cl M2 (O2 k) hr b2 .nil aA (bF (dY jb (O 1) a_ λ_ _=>J) (dY jb (O 1) a_ λ_ _=>J)<|O 2))
  (aG (bA 2 Ij.nd<|bV (O 0) aJ.T.cl M2 (O2 k) hr b2 .nil aA (bF (dY jb (O 1) a_ λ_ _=>J) (dY jb (O 1) a_ λ_ _=>J)<|O 2))
  (aR (bg<|bV (O 0) aJ.T.cl M2 (O2 k) hr b2 .nil aA (bF (dY jb (O 1) a_ λ_ _=>J) (dY jb (O 1) a_ λ_ _=>J)<|O 2))))),?_⟩
 refine bW.bind kk (qE h1.1 (aj J aM h1) (S'<|aj J lE h2) (S'<|aj J lE h2)) λy1 u1 U s1 _ q1 k1=>?_;have t1:=lE.up s1 h2;refine bW.bind k1 (qD h1.1 (aj J aM<|aM.up s1 h1) (S_<|aj J lE t1) (S_<|aj J lE t1)<|aj J aI q1) λy2 u2 H2 s2 _ q2 k2=>?_;have t2:=lE.up s2 t1;refine bW.bind k2 (qD h1.1 (aj J aM<|aM _ _ _ _ (s1.trans s2) h1) (Ta<|aj J lE t2) (Ta<|aj J lE t2)<|aj J aI q2) λy3 u3 H3 s3 _ q3 k3=>?_;have t3:=lE.up s3 t2;exact k3.by (qD h1.1 (aj J aM<|aM _ _ _ _ ((s1.trans s2).trans s3) h1) (Tb<|aj J lE t3) (Tb<|aj J lE t3)<|aj J aI q3)
end
end BW
namespace BW
open PySem PySem.Spec PyProof.Rows L2
open Bw (bS cQ bf cn gx jJ)
theorem seq_or(h1:NT C E RB (L a) σ H ta)(h2:NT C E RB (L b) σ H tb)(Jg:(a=ao\/b=ao)-> ∀U,az H U->t1 {D with nx:=u D} σ U)(no:¬(a=ao\/b=ao)-> ∀U,az H U->u D σ U):oS (zE (NZ (tB ta)<|tB tb) t1 IT) u D σ H:=by
 refine h1.go (Q':=λx U=>∃c,x= .bl c/\if c=ao then(if ao=ao then t1 {D with nx:=u D} σ U else u D σ U) else tb σ U λy H2=>∃e,y= .bl e/\if e=ao then t1 {D with nx:=u D} σ H2 else u D σ H2) λv U s1 q1=>⟨a,q1,d4 (λc=>?_) λc=>?_⟩
 ·rw[aH J]
  exact Jg (.inl c) U s1
 ·refine(h2.at_ s1).go λy H2 s2 q2=>⟨b,q2,d4 (λe=>?_) λe=>?_⟩
  ·exact Jg (.inr e) H2<|s1.trans s2
  ·exact no (λz=>z.elim c e) H2<|s1.trans s2
section
variable{P:cN}{w:World}{K:aq}{mg:ax->aw aE}{base:b9}{M CK:ak}
abbrev oQ(K:aq)(M:ak)(k:aB):Sp:=c7 M (aQ (RN K k)<|aQ (RN K k) cq) RB λx=>L<|jH k x.1 x.2.1
theorem w9(F:bz K "is_below" "is_below" qH f fd)(k:aB):aD P w K mg base gZ 1 f fd ["x","y"]<|oQ K M k:=by
 refine(ok_below (M:=M) F).imp λvs H Q E h=>?_;obtain⟨⟨a,b,_⟩,⟨v2,r2,rfl,⟨p,hp,rp⟩,v3,r3,rfl,⟨q,hq,rq⟩,rfl⟩,kk⟩:=h;refine⟨(p,q,()),⟨v2,_,J,⟨hp,zA rp⟩,v3,_,J,⟨hq,zA rq⟩,J⟩,kk.eq ?_⟩;show L _=L _;rw[Bw.rep_below rp rq]
theorem sy{E:XK}{σ:L2.St}{H:Hp}{t1 t2:TE}{a b:af}(h1:NT M E (RN K k) (L a) σ H t1)(h2:NT M E (RN K k) (L b) σ H t2):NT M E RB (L<|jH k a b) σ H<|d8 (oQ K M k) [] E (aU t1<|aU t2 b8):=cP (f:=λx=>L<|jH k x.1 x.2.1) (aF eK h1<|aF eK h2 bQ)
structure J8(K:aq)(mg:ax->aw aE):Prop where
 qu:∃a,mg "QUARTER"=L (.ref a)/\ ∀H,cD K H a [.int 1,.int (-2)]
 gs:∃a,mg "GREATEST_SQUARE"=L (.ref a)/\ ∀H,cD K H a [.int 1,.int 64]
abbrev Iw(K:aq)(M CK:ak)(k:aB)(g:tG->aw tG):Sp:=c7 M (aQ (RK CK k)<|aQ (R4 K k) cq) (R4 K k) λx=>g x.2.1
theorem M8:bE ["kind","t","square","length"] ["kind","t"] (bw<|aN 37):=fs
theorem ok_mol{f f3 f4:ak}{fd fh hU:cX}(F:bz K "made_one_long" "made_one_long" (aN 37) f fd)(aJ:KM P w K mg base M CK)(X:J8 K mg)(G3:Gf K mg "turn_square" (aN 36) f3 fh ["kind","t"])(G4:Gf K mg "is_below" qH f4 hU ["x","y"])(k:aB):aD P w K mg base (aO P w M) 6 f fd ["kind","t"] (Iw K M CK k<|yc k):=by
 obtain⟨f1,bZ,M1,b1,O1'⟩:=aJ.root;obtain⟨f2,dg,M2,b2,O2'⟩:=aJ.div;have O1:=(O1' k).aV (k:=5) dc;have O2:=(O2' k).aV (k:=5) dc;have O3:=Tn (P:=P) (w:=w) (base:=base) G3.F aJ k;have O4:aD P w K mg base (aO P w M) 5 f4 hU ["x","y"]<|oQ K M k:=(w9 G4.F k).gr.aV dc;obtain⟨qa,qm,qq⟩:=X.qu;obtain⟨ga,gm,gq⟩:=X.gs;refine F.oc M8 λH Q E hr h=>?_;obtain⟨⟨_,q,_⟩,⟨w1,r1,rfl,h1,w2,r2,rfl,h2,rfl⟩,kk⟩:=h
 refine⟨_,aG (bA 2 M8.nd<|cJ O3 hr J G3.m G3.F.kp G3.b .nil aA (bJ (O 0)<|O 1))
  (aG (dU (PW.pt (pV (iT<|cJ O4 hr J G4.m G4.F.kp G4.b .nil aA (bJ (O 2)<|dF J qm (v:=.ref qa) J))<|uM (iT<|cJ O4 hr J G4.m G4.F.kp G4.b .nil aA (bJ (dF J gm (v:=.ref ga) J)<|O 2)))) (aR<|HE J aJ.T.rM HH J aJ.T.r_) d5)
  (aG (bA 3 M8.nd<|bV (O 0) aJ.T.cl M1 O1 hr b1 .nil aA (bu<|O 2))
  (aR (bg (fO (dz (bV (O 0) aJ.T.cl M2 O2 hr b2 .nil aA<|bJ (aX<|O 1)<|O 3)
    (dz (bV (O 0) aJ.T.cl M2 O2 hr b2 .nil aA<|bJ (aX<|O 1)<|O 3)
    (dz (bV (O 0) aJ.T.cl M2 O2 hr b2 .nil aA<|bJ (aX<|O 1)<|O 3)
    (bu (bV (O 0) aJ.T.cl M2 O2 hr b2 .nil aA<|bJ (aX<|O 1)<|O 3)))))))))),?_⟩
 have uC:NT M E (RC K k) (yb k q) [L w1,L w2,ah,ah] H<|d8 (IH K M CK k) [] E (aU (au 0)<|aU (au 1) b8):=cP (t:=L ((),q,())) (f:=λx=>yb k x.2.1) (aF aM (aj J aM h1)<|aF lE (aj J lE<|r4s_of h2) bQ);refine bW.bind (rb:=yb k q) kk uC λn u1 U s1 _ q1 k1=>?_;have vn:NT M E (RN K k) (L n) [L w1,L w2,L u1,ah] U<|au 2:=aj J eK<|dS h1.1 q1;have vq:NT M E (RN K k) (L<|oK k (-2)) [L w1,L w2,L u1,ah] U (tC<|.ref qa):=iH eK ⟨_,⟨qa,J,qq U⟩,Bw.Uc h1.1⟩;have vg:NT M E (RN K k) (L<|oK k 64) [L w1,L w2,L u1,ah] U (tC<|.ref ga):=iH eK ⟨_,⟨ga,J,gq U⟩,Bw.rep_64 h1.1⟩;dsimp only[eE];refine seq_or (σ:=[L w1,L w2,L u1,ah]) (sy vn vq) (sy vg vn) (λc H2 s2=>?_) λc H2 s2=>?_
 ·exact k1.no H2 s2<|aH c
 have k2:=(k1.at_ s2).eq<|ay c;refine bW.bind (rb:=vU k n) k2 (nt_root (r:=L n) (σ:=[L w1,L w2,L u1,ah]) (aj J aM<|aM _ _ _ _ (s1.trans s2) h1) (aj J aI<|aI.up s2 q1)) λr u3 H3 s3 _ q3 k3=>?_;have v0:NT M E (RK CK k) (L ()) [L w1,L w2,L u1,L u3] H3<|au 0:=aj J aM<|aM _ _ _ _ ((s1.trans s2).trans s3) h1;have v1:NT M E (R4 K k) (L q) [L w1,L w2,L u1,L u3] H3<|au 1:=aj J gu<|gu _ _ _ _ ((s1.trans s2).trans s3) h2;have v3:NT M E (RC K k) (L r) [L w1,L w2,L u1,L u3] H3<|au 3:=aj J aI q3;exact k3.by (L8 (r:=xX k q.w r) (s:=xX k q.x r) (t:=xX k q.y r) (u:=xX k q.z r) (yV v0 (DV v1) v3) (yV v0 (DW v1) v3) (yV v0 (DX v1) v3)<|yV v0 (DY v1) v3)
abbrev Nn(K:aq)(M CK:ak)(k:aB)(g:tG->dP->aw dP):Sp:=c7 M (aQ (RK CK k) (aQ (R4 K k)<|aQ (R3 K k) cq)) (R3 K k) λx=>g x.2.1 x.2.2.1
theorem p7:bE ["kind","t","r","u","c","twice","d","s"] ["kind","t","r"] (bw<|aN 38):=fs
theorem Mf{f:ak}{fd:cX}(F:bz K "turned" "turned" (aN 38) f fd)(W:VM P w K mg base M CK)(k:aB):aD P w K mg base (aO P w M) 8 f fd ["kind","t","r"] (Nn K M CK k<|pq k):=by
 obtain⟨f1,bZ,m1,k1,b1,O1⟩:=W.cross;obtain⟨f2,dg,m2,k2,b2,O2⟩:=W.add;obtain⟨f3,fh,m3,k3,b3,O3⟩:=W.along;refine F.oc p7 λH Q E hr h=>?_;obtain⟨⟨_,q,r,_⟩,⟨w1,r1,rfl,h1,w2,r2,rfl,h2,w3,r3,rfl,h3,rfl⟩,kk⟩:=h
 refine⟨_,aG (bA 3 p7.nd (fO (bF (aX<|O 1) (aX<|O 1) (aX<|O 1))))
  (aG (bA 4 p7.nd<|cJ (O1 k) hr J m1 k1 b1 .nil aA (bF (O 0) (O 3)<|O 2))
  (aG (bA 5 p7.nd<|cJ (O2 k) hr J m2 k2 b2 .nil aA (bF (O 0) (O 4)<|O 4))
  (aG (bA 6 p7.nd<|cJ (O1 k) hr J m1 k1 b1 .nil aA (bF (O 0) (O 3)<|O 5))
  (aG (bA 7 p7.nd (cJ (O3 k) hr J m3 k3 b3 .nil aA (dz (O 0)<|bF (O 2) (aX<|O 1)<|O 5)))
  (aR (bg<|cJ (O2 k) hr J m2 k2 b2 .nil aA (bF (O 0) (O 7)<|O 6))))))),?_⟩
 have n1:NT M E (R3 K k) (L q.axis) [L w1,L w2,L w3,ah,ah,ah,ah,ah] H (kN (aU (bY (dI K) (au 1) (tC<|.int 1))<|aU (bY (dI K) (au 1) (tC<|.int 2))<|aU (bY (dI K) (au 1) (tC<|.int 3)) b8)):=pN (r:=L q.x) (s:=L q.y) (t:=L q.z) (DW<|aj J gu h2) (DX<|aj J gu h2) (DY<|aj J gu h2);refine jP n1 λu3 H3 s3 q3=>?_;have c3:=aM.up s3 h1;have t3:=gu.up s3 h2;have p3:=bR.up s3 h3;refine bW.bind (rb:=kU k q.axis r) (kk.at_ s3) (kJ (g:=kU k) (r:=L q.axis) (s:=L r) (aj J aM c3) (aj J bR q3)<|aj J bR p3) λy4 u4 H4 s4 _ q4 k4=>?_;refine bW.bind (rb:=iR k y4 y4) k4 (kJ (g:=iR k) (r:=L y4) (s:=L y4) (aj J aM<|aM.up s4 c3) (aj J bR q4)<|aj J bR q4) λy5 u5 H5 s5 _ q5 k5=>?_;have zp:=s4.trans s5;refine bW.bind (rb:=kU k q.axis y5) k5 (kJ (g:=kU k) (r:=L q.axis) (s:=L y5) (aj J aM<|aM.up zp c3) (aj J bR<|bR.up zp q3)<|aj J bR q5) λy6 u6 H6 s6 _ q6 k6=>?_;have uT:=zp.trans s6;refine bW.bind (rb:=iY k q.w y5 r) k6 (yW (g:=λp c d=>iY k c d p) (r:=L r) (c:=L q.w) (s:=L y5) (aj J aM<|aM.up uT c3) (aj J bR<|bR.up uT p3) (DV (aj J gu<|gu.up uT t3)) (aj J bR<|bR.up s6 q5)) λy7 u7 H7 s7 _ q7 k7=>?_;exact k7.by (kJ (g:=iR k) (r:=L y7) (s:=L y6) (aj J aM<|aM _ _ _ _ (uT.trans s7) c3) (aj J bR q7) (aj J bR<|bR.up s7 q6))
theorem sc_tb:bE ["kind","t","r"] ["kind","t","r"] (bw<|aN 39):=fs
theorem Hr(fa:cQ k a)(h:NT M E (RC K k) (L a) σ H te):NT M E (RC K k) (L<|qF k a) σ H (d8 (qM K M) [] E<|aU te b8):=by
 have h1:NT M E _ _ σ H te:=λU Q s k1=>h U Q s ⟨λH' v y s' e q=>by cases e;exact k1.ok H' v _ s' J q.1,λ_ _ e=>nomatch e⟩;have h2:=yZ h1;rw[Bw.Qi fa.1] at h2;exactλU Q s k1=>h2 U Q s ⟨λH' v y s' e q=>by cases e;exact k1.ok H' v _ s' J ⟨q,Bw.KC fa⟩,λ_ _ e=>nomatch e⟩
theorem ok_tb(F:bz K "turned_back" "turned_back" (aN 39) f fd)(W:VM P w K mg base M CK)(G1:Gf K mg "turned" (aN 38) f1 bZ ["kind","t","r"])(G2:Gf K mg "opposite" zr f2 dg ["x"])(k:aB):aD P w K mg base (aO P w M) 9 f fd ["kind","t","r"] (Nn K M CK k<|Pr k):=by
 have O1:=Mf G1.F W k;have O2:aD P w K mg base (aO P w M) 8 f2 dg _<|qM K M:=(y_ G2.F).gr.aV dc;refine F.oc sc_tb λH Q E hr h=>?_;obtain⟨⟨_,q,r,_⟩,⟨w1,r1,rfl,h1,w2,r2,rfl,h2,w3,r3,rfl,h3,rfl⟩,kk⟩:=h
 refine⟨_,aR (bg<|cJ O1 hr J G1.m G1.F.kp G1.b .nil aA (bF (O 0) (fO (dz (aX<|O 1) (dz (cJ O2 hr J G2.m G2.F.kp G2.b .nil aA<|bu (aX<|O 1))
  (bJ (cJ O2 hr J G2.m G2.F.kp G2.b .nil aA<|bu (aX<|O 1)) (cJ O2 hr J G2.m G2.F.kp G2.b .nil aA<|bu (aX<|O 1))))))<|O 2)),?_⟩
 have fq:cQ k q.x/\cQ k q.y/\cQ k q.z:=by
  obtain⟨a,w,x,y,z,e,hh,e1,e2,e3,e4⟩:=h2;exact⟨e2.2,e3.2,e4.2⟩
 have v1:NT M E _ _ [L w1,L w2,L w3] H<|au 1:=aj J gu h2;have n4:=L8 (DV v1) (Hr fq.1<|DW v1) (Hr fq.2.1<|DX v1) (Hr fq.2.2<|DY v1);exact kk.by (cP (t:=L ((),(⟨q.w,qF k q.x,qF k q.y,qF k q.z⟩:tG),r,())) (f:=λx=>pq k x.2.1 x.2.2.1)<|aF aM (aj J aM h1) (aF gu n4<|aF bR (aj J bR h3) bQ))
end
end BW
namespace BW
open PySem PySem.Spec PyProof.Rows L2
open Bw (bS cQ bf cn)
theorem LO(k:aB)(x y:af):ir k x y=ir k y x:=by
 unfold ir;rw[lU,Oh]
 cases dM k x<;>cases dM k y<;>rfl
theorem Zq(k:aB)(p q:dP):xY k p q=xY k q p:=by
 unfold xY;rw[LO k p.x,LO k p.y,LO k p.z]
def fL(v0 v1 v2 v3 v4 v5 v6:V):ag<|ax×V:=aY "force" v6 (aY "spin" v5<|aY "momentum" v4 (aY "turn" v3<|aY "place" v2 (aY "by_moment" v1<|aY "by_weight" v0 [])))
theorem YL:(fL v0 v1 v2 v3 v4 v5 v6).lookup ("force":ax)=L v6:=by
 unfold fL;rw[dm,aH J]
theorem YK:(fL v0 v1 v2 v3 v4 v5 v6).lookup ("spin":ax)=L v5:=by
 unfold fL;rw[dm,ay dk,dm,aH J]
theorem PZ:(fL v0 v1 v2 v3 v4 v5 v6).lookup ("momentum":ax)=L v4:=by
 unfold fL;rw[dm,ay dk,dm,ay dk,dm,aH J]
theorem YJ:(fL v0 v1 v2 v3 v4 v5 v6).lookup ("turn":ax)=L v3:=by
 unfold fL;rw[dm,ay dk,dm,ay dk,dm,ay dk,dm,aH J]
theorem PY:(fL v0 v1 v2 v3 v4 v5 v6).lookup ("place":ax)=L v2:=by
 unfold fL;rw[dm,ay dk,dm,ay dk,dm,ay dk,dm,ay dk,dm,aH J]
theorem YI:(fL v0 v1 v2 v3 v4 v5 v6).lookup ("by_moment":ax)=L v1:=by
 unfold fL;rw[dm,ay dk,dm,ay dk,dm,ay dk,dm,ay dk,dm,ay dk,dm,aH J]
theorem YH:(fL v0 v1 v2 v3 v4 v5 v6).lookup ("by_weight":ax)=L v0:=by
 unfold fL;rw[dm,ay dk,dm,ay dk,dm,ay dk,dm,ay dk,dm,ay dk,dm,ay dk,dm,aH J]
def ck(K:aq)(CB:ak)(k:aB):bO ff:=λH v b=>∃a dx v0 v1 v2 v3 v4 v5 v6,v= .ref a/\H a=L (.ins CB dx<|fL v0 v1 v2 v3 v4 v5 v6)/\RC K k H v0 b.inverse/\R3 K k H v1 b.moments/\R3 K k H v2 b.at_/\R4 K k H v3 b.turn/\R3 K k H v4 b.momentum/\R3 K k H v5 b.spin/\R3 K k H v6 b.force
theorem cu{K:aq}:cV<|ck K CB k:=λ_ _ _ _ s⟨a,dx,v0,v1,v2,v3,v4,v5,v6,e,h,h0,h1,h2,h3,h4,h5,h6⟩=>
 ⟨a,dx,v0,v1,v2,v3,v4,v5,v6,e,s _ _ h,aI.up s h0,bR.up s h1,bR.up s h2,gu.up s h3,bR.up s h4,bR.up s h5,bR.up s h6⟩
structure iM(K:aq)(mg:ax->aw aE)(CB:ak):Prop where
 cl:jV K CB
 nw:iq K CB "by_weight"
 nm:iq K CB "by_moment"
 np:iq K CB "place"
 nt:iq K CB "turn"
 G8:iq K CB "momentum"
 ns:iq K CB "spin"
 nf:iq K CB "force"
section
variable{K:aq}{mg:ax->aw aE}{M CK CB:ak}{E:XK}{σ:L2.St}{H:Hp}{te:TE}{k:aB}{b:ff}
theorem gw{R':bO β}{x:α}(h0:NT M E R' (L y) σ H te)(hi:∀U v,R' U v y-> ∃a D dx fs u,v= .ref a/\U a=L (.ins D dx fs)/\jV K D/\iq K D f/\fs.lookup f=L u/\R U u x):NT M E R (L x) σ H<|cZ K te f:=λU Q s k=>by
 refine(h0.at_ s).go λv H2 s2 q=>?_;obtain⟨a,D,dx,fs,u,e1,e2,e3,e4,e5,e6⟩:=hi H2 v q;exact⟨a,D,dx,fs,u,e1,e2,e3,e4,e5,k.ok H2 u x s2 J e6⟩
theorem L5(T:iM K mg CB)(h:NT M E (ck K CB k) (L b) σ H te):NT M E (RC K k) (L b.inverse) σ H<|cZ K te "by_weight":=gw h λ_ _⟨a,dx,v0,v1,v2,v3,v4,v5,v6,e,h,h0,h1,h2,h3,h4,h5,h6⟩=>⟨a,CB,dx,_,v0,e,h,T.cl,T.nw,YH,h0⟩
theorem SM(T:iM K mg CB)(h:NT M E (ck K CB k) (L b) σ H te):NT M E (R3 K k) (L b.moments) σ H<|cZ K te "by_moment":=gw h λ_ _⟨a,dx,v0,v1,v2,v3,v4,v5,v6,e,h,h0,h1,h2,h3,h4,h5,h6⟩=>⟨a,CB,dx,_,v1,e,h,T.cl,T.nm,YI,h1⟩
theorem yU(T:iM K mg CB)(h:NT M E (ck K CB k) (L b) σ H te):NT M E (R3 K k) (L b.at_) σ H<|cZ K te "place":=gw h λ_ _⟨a,dx,v0,v1,v2,v3,v4,v5,v6,e,h,h0,h1,h2,h3,h4,h5,h6⟩=>⟨a,CB,dx,_,v2,e,h,T.cl,T.np,PY,h2⟩
theorem wW(T:iM K mg CB)(h:NT M E (ck K CB k) (L b) σ H te):NT M E (R4 K k) (L b.turn) σ H<|cZ K te "turn":=gw h λ_ _⟨a,dx,v0,v1,v2,v3,v4,v5,v6,e,h,h0,h1,h2,h3,h4,h5,h6⟩=>⟨a,CB,dx,_,v3,e,h,T.cl,T.nt,YJ,h3⟩
theorem uz(T:iM K mg CB)(h:NT M E (ck K CB k) (L b) σ H te):NT M E (R3 K k) (L b.momentum) σ H<|cZ K te "momentum":=gw h λ_ _⟨a,dx,v0,v1,v2,v3,v4,v5,v6,e,h,h0,h1,h2,h3,h4,h5,h6⟩=>⟨a,CB,dx,_,v4,e,h,T.cl,T.G8,PZ,h4⟩
theorem A9(T:iM K mg CB)(h:NT M E (ck K CB k) (L b) σ H te):NT M E (R3 K k) (L b.spin) σ H<|cZ K te "spin":=gw h λ_ _⟨a,dx,v0,v1,v2,v3,v4,v5,v6,e,h,h0,h1,h2,h3,h4,h5,h6⟩=>⟨a,CB,dx,_,v5,e,h,T.cl,T.ns,YK,h5⟩
theorem SK(T:iM K mg CB)(h:NT M E (ck K CB k) (L b) σ H te):NT M E (R3 K k) (L b.force) σ H<|cZ K te "force":=gw h λ_ _⟨a,dx,v0,v1,v2,v3,v4,v5,v6,e,h,h0,h1,h2,h3,h4,h5,h6⟩=>⟨a,CB,dx,_,v6,e,h,T.cl,T.nf,YL,h6⟩
end
section
variable{P:cN}{w:World}{K:aq}{mg:ax->aw aE}{base:b9}{M CK CB:ak}
abbrev By(K:aq)(M CK CB:ak)(k:aB)(g:ff->aw dP):Sp:=c7 M (aQ (RK CK k)<|aQ (ck K CB k) cq) (R3 K k) λx=>g x.2.1
theorem sc_hf:bE ["kind","body"] ["kind","body"] (bw<|aN 46):=fs
theorem ok_hf(F:bz K "how_fast" "how_fast" (aN 46) f fd)(W:VM P w K mg base M CK)(T:iM K mg CB)(k:aB):aD P w K mg base (aO P w M) 8 f fd ["kind","body"] (By K M CK CB k<|pk k):=by
 obtain⟨f1,bZ,m1,k1,b1,O1⟩:=W.M9;refine F.oc sc_hf λH Q E hr h=>?_;obtain⟨⟨_,b,_⟩,⟨w1,r1,rfl,h1,w2,r2,rfl,h2,rfl⟩,kk⟩:=h;refine⟨_,aR (bg<|cJ (O1 k) hr J m1 k1 b1 .nil aA (bF (O 0) (bh<|O 1) (bh<|O 1))),?_⟩;have v1:NT M E _ _ [L w1,L w2] H<|au 1:=aj J cu h2;exact kk.by (cP (t:=L ((),b.inverse,b.momentum,())) (f:=λx=>vV k x.2.1 x.2.2.1)<|aF aM (aj J aM h1) (aF aI (L5 T v1)<|aF bR (uz T v1) bQ))
theorem UP:bE ["kind","body","own"] ["kind","body"] (bw<|aN 47):=fs
theorem ok_ht(F:bz K "how_it_turns" "how_it_turns" (aN 47) f fd)(W:VM P w K mg base M CK)(T:iM K mg CB)(G1:Gf K mg "turned" (aN 38) f1 bZ ["kind","t","r"])(G2:Gf K mg "turned_back" (aN 39) f2 dg ["kind","t","r"])(G3:Gf K mg "opposite" zr f3 fh ["x"])(k:aB):aD P w K mg base (aO P w M) 10 f fd ["kind","body"] (By K M CK CB k<|pw k):=by
 have O1:=(Mf (P:=P) (w:=w) (base:=base) G1.F W k).aV (k:=9) dc;have O2:=ok_tb (P:=P) (w:=w) (base:=base) G2.F W G1 G3 k;obtain⟨f4,hU,m4,k4,b4,O4'⟩:=W.each;have O4:=(O4' k).aV (k:=9) dc;refine F.oc UP λH Q E hr h=>?_;obtain⟨⟨_,b,_⟩,⟨w1,r1,rfl,h1,w2,r2,rfl,h2,rfl⟩,kk⟩:=h
 refine⟨_,aG (bA 2 UP.nd<|cJ O2 hr J G2.m G2.F.kp G2.b .nil aA (bF (O 0) (bh<|O 1) (bh<|O 1)))
  (aR (bg<|cJ O1 hr J G1.m G1.F.kp G1.b .nil aA (bF (O 0) (bh<|O 1) (cJ O4 hr J m4 k4 b4 .nil aA<|bF (O 0) (O 2) (bh<|O 1))))),?_⟩
 have v1:NT M E (ck K CB k) (L b) [L w1,L w2,ah] H<|au 1:=aj J cu h2;have n1:NT M E (R3 K k) _ _ H (d8 _ [] E<|aU (au 0) _):=cP (t:=L _) (f:=λx=>Pr k x.2.1 x.2.2.1)<|aF aM (aj J aM h1) (aF gu (wW T v1)<|aF bR (A9 T v1) bQ)
 have kk:bW M (R3 K k) H ((Pr k b.turn b.spin).bind λl=>(xY k l b.moments).bind λa=>pq k b.turn a) Q E:=kk.eq (by
  show pw k b=_;unfold pw
  congr 1
  funext l
  rw[Zq])
 refine bW.bind kk n1 λl u1 U s1 _ q1 k1=>?_;have v0:NT M E (RK CK k) (L ()) [L w1,L w2,L u1] U<|au 0:=aj J aM<|aM.up s1 h1;have v1:NT M E (ck K CB k) (L b) [L w1,L w2,L u1] U<|au 1:=aj J cu<|cu.up s1 h2;have v2:NT M E (R3 K k) (L l) [L w1,L w2,L u1] U<|au 2:=aj J bR q1;have ne:=kJ (g:=xY k) (r:=L l) v0 v2<|SM T v1;have nf:=cP (R:=R3 K k) (f:=λx=>pq k x.2.1 x.2.2.1)<|aF aM v0 (aF gu (wW T v1)<|aF bR ne bQ);refine k1.by<|nf.eq ?_
 cases e:xY k l b.moments with
 |none=>simp[e]
 |some y=>simp[e]
end
end BW
namespace BW
open PySem PySem.Spec PyProof.Rows L2
open Bw (bS cQ bf cn)
section
variable{K:aq}{CK CB:ak}{k:aB}
theorem Se:lT<|RP K:=λ_ _ _ _ s⟨a,e,h⟩=>⟨a,e,s.tup h⟩
theorem du:lT<|RC K k:=λ_ _ _ _ s⟨h,r⟩=>⟨Se.up s h,r⟩
theorem cO:lT<|R3 K k:=λ_ _ _ _ s⟨a,x,y,z,e,h,h1,h2,h3⟩=>⟨a,x,y,z,e,s.tup h,du.up s h1,du.up s h2,du.up s h3⟩
theorem qt:lT<|R4 K k:=λ_ _ _ _ s⟨a,w,x,y,z,e,h,h1,h2,h3,h4⟩=>⟨a,w,x,y,z,e,s.tup h,du.up s h1,du.up s h2,du.up s h3,du.up s h4⟩
theorem LK:kR<|RK CK k:=λ_ _ _ _ s⟨h,a,dx,e,q⟩=>⟨h,a,dx,e,s.2 _ _ _ _ q⟩
theorem uo:kR<|ck K CB k:=λ_ _ _ _ s⟨a,dx,v0,v1,v2,v3,v4,v5,v6,e,h,h0,h1,h2,h3,h4,h5,h6⟩=>
 ⟨a,dx,v0,v1,v2,v3,v4,v5,v6,e,s.2 _ _ _ _ h,du _ _ _ _ s.1 h0,cO _ _ _ _ s.1 h1,cO _ _ _ _ s.1 h2,qt _ _ _ _ s.1 h3,cO _ _ _ _ s.1 h4,cO _ _ _ _ s.1 h5,cO _ _ _ _ s.1 h6⟩
end
structure jq(mg:ax->aw aE):Prop where
 tuple:mg "tuple"=ah
 list:mg "list"=ah
 bG:mg "len"=ah
 range:mg "range"=ah
 zip:mg "zip"=ah
 Kx:mg "enumerate"=ah
 any:mg "any"=ah
structure Tx(K:aq)(mg:ax->aw aE)(D:ak)(x:ax)(fs:ag ax):Prop where
 cl:jV K D
 na:∀f∈fs,iq K D f
 m:mg x=L (.ref D)
section
variable{K:aq}{M:ak}{E:XK}{σ:L2.St}{H:Hp}{te t1 t2:TE}{α:Type}{R:bO α}{xs ys:ag α}
def xV(K:aq)(R:bO α):bO<|ag α:=λH v xs=>RL K R H v xs\/RT K R H v xs
theorem AX(m:cV R):cV<|xV K R:=λ_ _ _ _ s h=>h.imp (cw m _ _ _ _ s)<|yP m _ _ _ _ s
abbrev Mw(K:aq):ag V->Hp->VK->Prop:=λxs H Q=>∃p ys,xs=[.ref p]/\((SqL K H p ys/\ ∀l,H l=ah->Q (.ref l) (aC H l<|.tup ys))\/(cD K H p ys/\Q (.ref p) H))
theorem Ar{a b:af}(hb:b<=vs.length):qk vs (L a) (L b)=(vs.drop a).take (b-a):=by
 unfold qk;have e1:HT.eQ vs.length 0 (L a)=min a vs.length:=by
  show(if a<0 then(a+(vs.length:ae)).toNat else min (a:ae).toNat vs.length)=_;rw[ay om,kl]
 have e2:HT.eQ vs.length vs.length (L b)=min b vs.length:=by
  show(if b<0 then(b+(vs.length:ae)).toNat else min (b:ae).toNat vs.length)=_;rw[ay om,kl]
 rw[e1,e2,Xq hb];rcases Xo a vs.length with h|h
 ·rw[Xq h]
 ·rw[Nat.min_eq_right h,W0 h,W2]
  simp
theorem wY(m:cV R)(h:NT M E (xV K R) (L xs) σ H te)(hb:b<=xs.length)(nw:¬(a=0/\b=xs.length))(QW:a<=b):NT M E (RT K R) (L ((xs.drop a).take<|b-a)) σ H<|xy (Mw K) (aU (BG (λx lo hi H Q=>Bl K x lo hi H Q\/T9 K x lo hi H Q) te (qO (tC<|.int a))<|qO (tC<|.int b)) b8):=λU Q s k=>by
 refine(h.at_ s).go λv H2 s2 q=>⟨_,J,_,J,?_⟩;rcases q with⟨p,vs,rfl,hp,ha⟩|⟨p,vs,rfl,hp,ha⟩
 ·have hl:=ha.bG
  refine .inl ⟨p,vs,J,hp,λl hn=>⟨l,_,J,.inl ⟨SqL.of bp,λt ht=>?_⟩⟩⟩;have s3:=(az.new hn).trans<|az.new (o:=.tup (qk vs (L a)<|L b)) ht;refine k.ok _ _ _ (s2.trans s3) J ⟨t,_,J,cD.of bp,?_⟩;have h:=((ha.drop a).take<|b-a).imp λv x=>m _ _ _ _ s3;rw[<-Ar om] at h;exact h
 ·have hl:=ha.bG
  refine .inr ⟨p,vs,J,hp,λz=>nw ?_,λl hn=>⟨l,_,J,.inr ⟨cD.of bp,?_⟩⟩⟩
  ·have e1:HT.eQ vs.length 0 (L a)=min a vs.length:=by
    show(if a<0 then(a+(vs.length:ae)).toNat else min (a:ae).toNat vs.length)=_;rw[ay om,kl]
   have e2:HT.eQ vs.length vs.length (L b)=min b vs.length:=by
    show(if b<0 then(b+(vs.length:ae)).toNat else min (b:ae).toNat vs.length)=_;rw[ay om,kl]
   omega
  ·have s3:=az.new (o:=.tup (qk vs (L a)<|L b)) hn
   refine k.ok _ _ _ (s2.trans s3) J ⟨l,_,J,cD.of bp,?_⟩;have h:=((ha.drop a).take<|b-a).imp λv x=>m _ _ _ _ s3;rw[<-Ar om] at h;exact h
theorem Hi(m:cV R)(j:af)(h:NT M E (xV K R) (L xs) σ H te)(hx:xs[j]? =L x):NT M E R (L x) σ H<|bY (sF K) te (tC<|.int j):=wZ j h λU v q=>by
 rcases q with⟨p,vs,rfl,hp,ha⟩|⟨p,vs,rfl,hp,ha⟩
 ·obtain⟨u,hu,r⟩:=ha.rO hx
  exact⟨p,vs,u,J,.inl hp,hu,r⟩
 ·obtain⟨u,hu,r⟩:=ha.rO hx
  exact⟨p,vs,u,J,.inr hp,hu,r⟩
theorem wX(m:cV R)(h1:NT M E (RT K R) (L xs) σ H t1)(h2:NT M E (RT K R) (L ys) σ H t2)(n1:xs≠[])(n2:ys≠[])(hz:xs.length+ys.length<=bH):NT M E (RT K R) (L<|xs++ys) σ H<|bY (T5 K) t1 t2:=λU Q s k=>by
 refine(h1.at_ s).go λv H2 s2 q=>?_;refine(h2.at_<|s.trans s2).go λu H3 s3 q2=>?_;obtain⟨p,vs,rfl,hp,ha⟩:=yP m _ _ _ _ s3 q;obtain⟨p',us,rfl,Dm,ha'⟩:=q2;have l1:=ha.bG;have l2:=ha'.bG;refine⟨p,p',vs,us,J,J,hp,Dm,λz=>n1<|JB (by rw[<-l1,z];rfl),om,λz=>absurd (JB (by rw[<-l2,z];rfl)) n2,λ_ t ht=>?_⟩;exact k.ok _ _ _ ((s2.trans s3).trans<|az.new ht) J ⟨t,_,J,cD.of bp,(ha.append ha').imp λv x=>m _ _ _ _<|az.new ht⟩
end
section
variable{K:aq}{M:ak}{E:XK}{σ:L2.St}{H:Hp}{te:TE}{k:aB}
theorem Ly{R:V->α->Prop}{x y z:α}(h:cf R vs [x,y,z]):∃a b c,vs=[a,b,c]/\R a x/\R b y/\R c z:=by
 cases vs with
 |nil=>exact h.elim
 |cons a vs=>
  obtain⟨h1,h⟩:=h
  cases vs with
  |nil=>exact h.elim
  |cons b vs=>
   obtain⟨h2,h⟩:=h
   cases vs with
   |nil=>exact h.elim
   |cons c vs=>
    obtain⟨h3,h⟩:=h
    cases vs with
    |nil=>exact⟨a,b,c,J,h1,h2,h3⟩
    |cons d vs=>exact h.elim
theorem Lz{R:V->α->Prop}{w x y z:α}(h:cf R vs [w,x,y,z]):∃a b c d,vs=[a,b,c,d]/\R a w/\R b x/\R c y/\R d z:=by
 cases vs with
 |nil=>exact h.elim
 |cons a vs=>
  obtain⟨h1,h⟩:=h;obtain⟨b,c,d,rfl,h2,h3,h4⟩:=Ly h;exact⟨a,b,c,d,J,h1,h2,h3,h4⟩
theorem uN(h:RT K (RC K k) H v [x,y,z]):R3 K k H v ⟨x,y,z⟩:=by
 obtain⟨p,vs,rfl,hp,ha⟩:=h;obtain⟨a,b,c,rfl,h1,h2,h3⟩:=Ly ha;exact⟨p,a,b,c,J,hp,h1,h2,h3⟩
theorem r4_of(h:RT K (RC K k) H v [w,x,y,z]):R4 K k H v ⟨w,x,y,z⟩:=by
 obtain⟨p,vs,rfl,hp,ha⟩:=h;obtain⟨a,b,c,d,rfl,h1,h2,h3,h4⟩:=Lz ha;exact⟨p,a,b,c,d,J,hp,h1,h2,h3,h4⟩
theorem pW(h:R3 K k H v p):RT K (RC K k) H v p.list:=by
 obtain⟨a,x,y,z,rfl,hp,h1,h2,h3⟩:=h;exact⟨a,_,J,hp,h1,h2,h3,cg⟩
theorem Um(h:R4 K k H v p):RT K (RC K k) H v p.list:=by
 obtain⟨a,w,x,y,z,rfl,hp,h1,h2,h3,h4⟩:=h;exact⟨a,_,J,hp,h1,h2,h3,h4,cg⟩
theorem _root_.L2.NT.conv{R':bO β}{y:α}(h:NT C E R (L y) σ H te)(w:∀H v,R H v y->R' H v z):NT C E R' (L z) σ H te:=λU Q s k=>
 h U Q s ⟨λH' v x s' e q=>by cases e;exact k.ok H' v z s' J<|w _ _ q,λ_ _ e=>nomatch e⟩
theorem lD{R:bO α}{fs:ag (ax×V)}(h:NT M E R (L y) σ Hc te)(hv:σ[0]? =L (L<|.ref p))(hp:Hc p=L (.ins CC dx fs))(cl:jV K CC)(na:iq K CC f)(hl:fs.length<1000)
 (next:∀v U,az Hc U->R U v y->U p=L (.ins CC dx fs)->D.nx σ (aC U p (.ins CC dx<|aY f v fs))):xl K (au 0) te f D σ Hc:=h.go λv U s1 q=>⟨_,hv,p,CC,dx,fs,J,s1 _ _ hp,cl,na,hl,next v U s1 q (s1 _ _ hp)⟩
theorem ui{R':bO β}{rb:aw β}{g:β->aw α}{fs:ag (ax×V)}(kk:bW M R Hb (rb.bind g) Q E)(sb:az Hb Hc)(h:NT M E R' rb σ Hc te)(hv:σ[0]? =L (L<|.ref p))(hp:Hc p=L (.ins CC dx fs))(cl:jV K CC)(na:iq K CC f)(hl:fs.length<1000)
 (next:∀y v U,az Hc U->R' U v y->U p=L (.ins CC dx fs)->bW M R Hb (g y) Q E->D.nx σ (aC U p (.ins CC dx<|aY f v fs))):xl K (au 0) te f D σ Hc:=kk.bindB sb h λy v U s1 _ q k1=>⟨_,hv,p,CC,dx,fs,J,s1 _ _ hp,cl,na,hl,next y v U s1 q (s1 _ _ hp) k1⟩
theorem gM(sb:az Hb Hc)(s:az Hc U)(hn:Hb p=ah):az Hb<|aC U p o:=λb u e=>by
 rw[bI<|dv e hn];exact s _ _<|sb _ _ e
end
def Ap(l:ag af):ff:=⟨l.getD 0 0,⟨l.getD 1 0,l.getD 2 0,l.getD 3 0⟩,⟨l.getD 4 0,l.getD 5 0,l.getD 6 0⟩,⟨l.getD 7 0,l.getD 8 0,l.getD 9 0,l.getD 10 0⟩,⟨l.getD 11 0,l.getD 12 0,l.getD 13 0⟩,⟨l.getD 14 0,l.getD 15 0,l.getD 16 0⟩,l.getD 17 0,l.getD 18 0,l.getD 19 0⟩
theorem dQ{α:Type}{l:ag α}(h:l.length=n+1):∃a t,l=a::t/\t.length=n:=by
 cases l with
 |nil=>cases h
 |cons a t=>exact⟨a,t,J,by simpa using h⟩
theorem RS{l:ag af}(h:l.length=20):∃a0 a1 a2 a3 a4 a5 a6 a7 a8 a9 i_ mY mZ m6 m7 m8 m9 m_ nk px,l=[a0,a1,a2,a3,a4,a5,a6,a7,a8,a9,i_,mY,mZ,m6,m7,m8,m9,m_,nk,px]:=by
 obtain⟨a0,l0,rfl,g0⟩:=dQ h;obtain⟨a1,l1,rfl,g1⟩:=dQ g0;obtain⟨a2,l2,rfl,g2⟩:=dQ g1;obtain⟨a3,l3,rfl,g3⟩:=dQ g2;obtain⟨a4,l4,rfl,g4⟩:=dQ g3;obtain⟨a5,l5,rfl,g5⟩:=dQ g4;obtain⟨a6,l6,rfl,g6⟩:=dQ g5;obtain⟨a7,l7,rfl,g7⟩:=dQ g6;obtain⟨a8,l8,rfl,g8⟩:=dQ g7;obtain⟨a9,l9,rfl,g9⟩:=dQ g8;obtain⟨i_,l10,rfl,g10⟩:=dQ g9;obtain⟨mY,l11,rfl,g11⟩:=dQ g10;obtain⟨mZ,DB,rfl,g12⟩:=dQ g11;obtain⟨m6,l13,rfl,g13⟩:=dQ g12;obtain⟨m7,l14,rfl,g14⟩:=dQ g13;obtain⟨m8,l15,rfl,g15⟩:=dQ g14;obtain⟨m9,l16,rfl,g16⟩:=dQ g15;obtain⟨m_,l17,rfl,g17⟩:=dQ g16;obtain⟨nk,l18,rfl,g18⟩:=dQ g17;obtain⟨px,l19,rfl,g19⟩:=dQ g18
 cases l19 with
 |nil=>exact⟨a0,a1,a2,a3,a4,a5,a6,a7,a8,a9,i_,mY,mZ,m6,m7,m8,m9,m_,nk,px,J⟩
 |cons x t=>cases g19
def Ci(K:aq)(k:aB):bO<|ag af:=λH v xs=>xV K (RC K k) H v xs/\xs.length=20
theorem DI{K:aq}:cV<|Ci K k:=λ_ _ _ _ s h=>⟨AX aI _ _ _ _ s h.1,h.2⟩
abbrev sB(j:af):dr:=rX (aN 42) j
abbrev YG:ag ax:=["by_weight","by_moment","place","turn","momentum","spin","force"]
section
variable{P:cN}{w:World}{K:aq}{mg:ax->aw aE}{base:b9}{M CK CB CM CP:ak}
theorem scBI:bE ["self","numbers"] ["self","numbers"] (bw<|sB 0):=fs
abbrev EH(K:aq)(M CB:ak)(k:aB):Sp:=uY M CB (aQ (Ci K k) cq) (ck K CB k) λx=>L<|Ap x.1
theorem ok_binit{f:ak}{fd:cX}(F:bz K "__init__" "Body.__init__" (sB 0) f fd)(TC:jq mg)(TB:iM K mg CB)(k:aB):aD P w K mg base (aO P w M) 10 f fd ["self","numbers"]<|EH K M CB k:=by
 refine F.oc scBI λH Q E hr h=>?_;obtain⟨Hb,p,dx,⟨l,_⟩,r,rfl,hp,sb,hn,⟨v,r2,rfl,⟨hl,wq⟩,rfl⟩,kk,_⟩:=h;refine⟨_,(aG (dH (O 0) (dY jb (O 1) a_ λ_ _=>J) J) (aG (dH (O 0) (nU qi J TC.tuple rG<|bu (lJ (lO.or xq) (O 1) (gb a_)<|gb a_)) J) (aG (dH (O 0) (nU qi J TC.tuple rG<|bu (lJ (lO.or xq) (O 1) (gb a_)<|gb a_)) J) (aG (dH (O 0) (nU qi J TC.tuple rG<|bu (lJ (lO.or xq) (O 1) (gb a_)<|gb a_)) J) (aG (dH (O 0) (nU qi J TC.tuple rG<|bu (lJ (lO.or xq) (O 1) (gb a_)<|gb a_)) J) (aG (dH (O 0) (nU qi J TC.tuple rG<|bu (lJ (lO.or xq) (O 1) (gb a_)<|gb a_)) J) (aR<|dH (O 0) (nU qi J TC.tuple rG<|bu (lJ (lO.or xq) (O 1) (gb a_)<|gb a_)) J))))))),?_⟩;obtain⟨a0,a1,a2,a3,a4,a5,a6,a7,a8,a9,i_,mY,mZ,m6,m7,m8,m9,m_,nk,px,rfl⟩:=RS wq;have hv:∀{Hc:Hp},az Hb Hc->NT M E (xV K<|RC K k) _ [L<|.ref p,L v] Hc (au 1):=λs=>aj J (AX aI)<|AX aI _ _ _ _ s hl;refine lD (Hi aI 0 (hv sb) J) J hp TB.cl TB.nw dc λv0 H0 s0 q0 p0=>?_;have b0:=gM (o:=.ins CB dx<|aY "by_weight" v0 []) sb s0 hn;refine lD (wY aI (a:=1) (b:=4) (hv b0) (by show 4<=20;decide) (by show¬(1=0/\4=20);decide) dc) J bp TB.cl TB.nm (by show 1<1000;decide) λv1 U s1 q1 p1=>?_;have b1:=gM (o:=.ins CB dx (aY "by_moment" v1<|aY "by_weight" v0 [])) b0 s1 hn;refine lD (wY aI (a:=4) (b:=7) (hv b1) (by show 7<=20;decide) (by show¬(4=0/\7=20);decide) dc) J bp TB.cl TB.np (by show 2<1000;decide) λv2 H2 s2 q2 p2=>?_;have b2:=gM (o:=.ins CB dx<|aY "place" v2 (aY "by_moment" v1<|aY "by_weight" v0 [])) b1 s2 hn;refine lD (wY aI (a:=7) (b:=11) (hv b2) (by show 11<=20;decide) (by show¬(7=0/\11=20);decide) dc) J bp TB.cl TB.nt (by show 3<1000;decide) λv3 H3 s3 q3 p3=>?_;have b3:=gM (o:=.ins CB dx (aY "turn" v3<|aY "place" v2 (aY "by_moment" v1<|aY "by_weight" v0 []))) b2 s3 hn;refine lD (wY aI (a:=11) (b:=14) (hv b3) (by show 14<=20;decide) (by show¬(11=0/\14=20);decide) dc) J bp TB.cl TB.G8 (by show 4<1000;decide) λv4 H4 s4 q4 p4=>?_;have b4:=gM (o:=.ins CB dx<|aY "momentum" v4 (aY "turn" v3<|aY "place" v2 (aY "by_moment" v1<|aY "by_weight" v0 []))) b3 s4 hn;refine lD (wY aI (a:=14) (b:=17) (hv b4) (by show 17<=20;decide) (by show¬(14=0/\17=20);decide) dc) J bp TB.cl TB.ns (by show 5<1000;decide) λv5 H5 s5 q5 p5=>?_;have b5:=gM (o:=.ins CB dx (aY "spin" v5<|aY "momentum" v4 (aY "turn" v3<|aY "place" v2 (aY "by_moment" v1<|aY "by_weight" v0 [])))) b4 s5 hn;refine lD (wY aI (a:=17) (b:=20) (hv b5) (by show 20<=20;decide) (by show¬(17=0/\20=20);decide) dc) J bp TB.cl TB.nf (by show 6<1000;decide) λv6 H6 s6 q6 p6=>?_;have t6:cp H6<|aC H6 p (.ins CB dx<|fL v0 v1 v2 v3 v4 v5 v6):=cp.aC (by rw[p6];trivial);have t5:cp H5 _:=((cp.aC (by rw[p5];trivial)).trans s6.i.1).trans t6;have t4:cp H4 _:=((cp.aC (by rw[p4];trivial)).trans s5.i.1).trans t5;have t3:cp H3 _:=((cp.aC (by rw[p3];trivial)).trans s4.i.1).trans t4;have t2:cp H2 _:=((cp.aC (by rw[p2];trivial)).trans s3.i.1).trans t3;have t1:cp U _:=((cp.aC (by rw[p1];trivial)).trans s2.i.1).trans t2;have t0:cp H0 _:=((cp.aC (by rw[p0];trivial)).trans s1.i.1).trans t1;exact kk _ _ (gM b5 s6 hn) J ⟨p,dx,v0,v1,v2,v3,v4,v5,v6,J,bp,du.up t0 q0,cO.up t1<|uN q1,cO.up t2<|uN q2,qt.up t3<|r4_of q3,cO.up t4<|uN q4,cO.up t5<|uN q5,cO.up t6<|uN q6⟩
abbrev u_(K:aq)(M CB:ak)(k:aB):Sp:=c7 M (aQ (ck K CB k) cq) (RT K<|RC K k) λx=>L<|mX x.1
theorem scTw:bE ["self"] ["self"] (bw<|sB 1):=fs
theorem ok_twenty{f:ak}{fd:cX}(F:bz K "twenty" "Body.twenty" (sB 1) f fd)(TB:iM K mg CB)(k:aB):aD P w K mg base (aO P w M) 10 f fd ["self"]<|u_ K M CB k:=by
 refine F.oc scTw λH Q E hr h=>?_;obtain⟨⟨b,_⟩,⟨v,r2,rfl,h1,rfl⟩,kk⟩:=h;refine⟨_,(aR<|bg (bL xa (bL xa (bL xa (bL xa (bL xa (bL xa (fO<|bu (bh<|O 0)) (bh<|O 0)) (bh<|O 0)) (bh<|O 0)) (bh<|O 0)) (bh<|O 0)) (bh<|O 0))),?_⟩;have v0:NT M E (ck K CB k) (L b) [L v] H<|au 0:=aj J cu h1;have n0:NT M E (RT K<|RC K k) (L [b.inverse]) [L v] H (kN<|aU (cZ K (au 0) "by_weight") b8):=NT.eq (y' (f:=λx=>L [x.1]) (aF aI (L5 TB v0) bQ) (λ_ _ _⟨v,r,e,_,e2⟩=>by subst e e2;show 1<=bH;decide) (λ_ _ y p⟨v,r,e,q1,e2⟩hp=>by subst e e2;exact⟨_,J,p,_,J,cD.of hp,q1,cg⟩)<|mq aI yR) J
 have n1:=wX aI n0 ((SM TB v0).conv λ_ _=>pW) (by simp) (by simp[oj]) (by show 1+3<=bH;decide);have n2:=wX aI n1 ((yU TB v0).conv λ_ _=>pW) (by simp) (by simp[oj]) (by show 4+3<=bH;decide);have n3:=wX aI n2 ((wW TB v0).conv λ_ _=>Um) (by simp) (by simp[XX]) (by show 7+4<=bH;decide);have n4:=wX aI n3 ((uz TB v0).conv λ_ _=>pW) (by simp) (by simp[oj]) (by show 11+3<=bH;decide);have n5:=wX aI n4 ((A9 TB v0).conv λ_ _=>pW) (by simp) (by simp[oj]) (by show 14+3<=bH;decide);have n6:=wX aI n5 ((SK TB v0).conv λ_ _=>pW) (by simp) (by simp[oj]) (by show 17+3<=bH;decide);exact kk.by n6
end
end BW
namespace BW
open PySem PySem.Spec PyProof.Rows L2
open Bw (bS cQ bf cn qX rh iu ic f_)
abbrev wI:ag ax:=["place","turn","speed","turning"]
abbrev zd:ag ax:=["arm","place","speed"]
def AY(v0 v1 v2 v3:V):ag<|ax×V:=aY "turning" v3<|aY "speed" v2 (aY "turn" v1<|aY "place" v0 [])
def Ee(v0 v1 v2:V):ag<|ax×V:=aY "speed" v2 (aY "place" v1<|aY "arm" v0 [])
def jZ(K:aq)(CM:ak)(k:aB):bO qX:=λH v m=>∃a dx v0 v1 v2 v3,v= .ref a/\H a=L (.ins CM dx<|AY v0 v1 v2 v3)/\R3 K k H v0 m.at_/\R4 K k H v1 m.turn/\R3 K k H v2 m.v/\R3 K k H v3 m.o
def lW(K:aq)(CP:ak)(k:aB):bO rh:=λH v m=>∃a dx v0 v1 v2,v= .ref a/\H a=L (.ins CP dx<|Ee v0 v1 v2)/\R3 K k H v0 m.CA/\R3 K k H v1 m.at_/\R3 K k H v2 m.v
section
variable{K:aq}{CM CP M:ak}{k:aB}{mg:ax->aw aE}{E:XK}{σ:L2.St}{H:Hp}{te:TE}
theorem mn:kR<|jZ K CM k:=λ_ _ _ _ s⟨a,dx,v0,v1,v2,v3,e,h,h0,h1,h2,h3⟩=>⟨a,dx,v0,v1,v2,v3,e,s.2 _ _ _ _ h,cO _ _ _ _ s.1 h0,qt _ _ _ _ s.1 h1,cO _ _ _ _ s.1 h2,cO _ _ _ _ s.1 h3⟩
theorem uq:kR<|lW K CP k:=λ_ _ _ _ s⟨a,dx,v0,v1,v2,e,h,h0,h1,h2⟩=>⟨a,dx,v0,v1,v2,e,s.2 _ _ _ _ h,cO _ _ _ _ s.1 h0,cO _ _ _ _ s.1 h1,cO _ _ _ _ s.1 h2⟩
theorem nt_mp(T:Tx K mg CM "Motion" wI)(h:NT M E (jZ K CM k) (L m) σ H te):NT M E (R3 K k) (L m.at_) σ H<|cZ K te "place":=gw h λ_ _⟨a,dx,v0,v1,v2,v3,e,h,h0,h1,h2,h3⟩=>⟨a,CM,dx,_,v0,e,h,T.cl,T.na _ dk,by unfold AY;sleep 1,h0⟩
theorem nt_mt(T:Tx K mg CM "Motion" wI)(h:NT M E (jZ K CM k) (L m) σ H te):NT M E (R4 K k) (L m.turn) σ H<|cZ K te "turn":=gw h λ_ _⟨a,dx,v0,v1,v2,v3,e,h,h0,h1,h2,h3⟩=>⟨a,CM,dx,_,v1,e,h,T.cl,T.na _ dk,by unfold AY;sleep 1,h1⟩
theorem nt_mv(T:Tx K mg CM "Motion" wI)(h:NT M E (jZ K CM k) (L m) σ H te):NT M E (R3 K k) (L m.v) σ H<|cZ K te "speed":=gw h λ_ _⟨a,dx,v0,v1,v2,v3,e,h,h0,h1,h2,h3⟩=>⟨a,CM,dx,_,v2,e,h,T.cl,T.na _ dk,by unfold AY;sleep 1,h2⟩
theorem nt_mo(T:Tx K mg CM "Motion" wI)(h:NT M E (jZ K CM k) (L m) σ H te):NT M E (R3 K k) (L m.o) σ H<|cZ K te "turning":=gw h λ_ _⟨a,dx,v0,v1,v2,v3,e,h,h0,h1,h2,h3⟩=>⟨a,CM,dx,_,v3,e,h,T.cl,T.na _ dk,by unfold AY;sleep 1,h3⟩
theorem S5(T:Tx K mg CP "Point" zd)(h:NT M E (lW K CP k) (L m) σ H te):NT M E (R3 K k) (L m.CA) σ H<|cZ K te "arm":=gw h λ_ _⟨a,dx,v0,v1,v2,e,h,h0,h1,h2⟩=>⟨a,CP,dx,_,v0,e,h,T.cl,T.na _ dk,by unfold Ee;sleep 1,h0⟩
theorem S7(T:Tx K mg CP "Point" zd)(h:NT M E (lW K CP k) (L m) σ H te):NT M E (R3 K k) (L m.at_) σ H<|cZ K te "place":=gw h λ_ _⟨a,dx,v0,v1,v2,e,h,h0,h1,h2⟩=>⟨a,CP,dx,_,v1,e,h,T.cl,T.na _ dk,by unfold Ee;sleep 1,h1⟩
theorem S8(T:Tx K mg CP "Point" zd)(h:NT M E (lW K CP k) (L m) σ H te):NT M E (R3 K k) (L m.v) σ H<|cZ K te "speed":=gw h λ_ _⟨a,dx,v0,v1,v2,e,h,h0,h1,h2⟩=>⟨a,CP,dx,_,v2,e,h,T.cl,T.na _ dk,by unfold Ee;sleep 1,h2⟩
end
section
variable(P:cN)(w:World)(K:aq)(mg:ax->aw aE)(base:b9)(M CK CB:ak)
structure BM:Prop where
 V:VM P w K mg base M CK
 TB:iM K mg CB
 tu:cU P w K mg base M 10 "turned" ["kind","t","r"] λk=>Nn K M CK k (pq k)
 hf:cU P w K mg base M 10 "how_fast" ["kind","body"] λk=>By K M CK CB k (pk k)
 ht:cU P w K mg base M 10 "how_it_turns" ["kind","body"] λk=>By K M CK CB k (pw k)
 tp:cU P w K mg base M 10 "turn_product" ["kind","s","t"] λk=>Vu K M CK k
 mo:cU P w K mg base M 10 "made_one_long" ["kind","t"] λk=>Iw K M CK k<|yc k
end
section
variable{P:cN}{w:World}{K:aq}{mg:ax->aw aE}{base:b9}{M CK CB CM CP:ak}
abbrev sM:dr:=rX (aN 43) 0
abbrev Us:dr:=rX (aN 44) 0
theorem scMI:bE ["self","kind","body"] ["self","kind","body"]<|bw sM:=fs
abbrev Nz(K:aq)(M CK CB CM:ak)(k:aB):Sp:=uY M CM (aQ (RK CK k)<|aQ (ck K CB k) cq) (jZ K CM k) λx=>ic k x.2.1
theorem ok_minit{f:ak}{fd:cX}(F:bz K "__init__" "Motion.__init__" sM f fd)(B:BM P w K mg base M CK CB)(T:Tx K mg CM "Motion" wI)(k:aB):aD P w K mg base (aO P w M) 12 f fd ["self","kind","body"]<|Nz K M CK CB CM k:=by
 have TB:=B.TB;refine F.oc scMI λH Q E hr h=>?_;obtain⟨Hb,p,dx,⟨_,b,_⟩,r,rfl,hp,sb,hn,⟨w1,r2,rfl,h1,w2,r3,rfl,h2,rfl⟩,kk,kn⟩:=h;refine⟨_,(aG (dH (O 0) (bh<|O 2) J) (aG (dH (O 0) (bh<|O 2) J) (aG (dH (O 0) (B.hf.c k hr aA (bJ (O 1)<|O 2)) J) (aR<|dH (O 0) (B.ht.c k hr aA (bJ (O 1)<|O 2)) J)))),?_⟩;have kk:bW M (jZ K CM k) Hb (ic k b) (λv H'=>∀a,v= .ref a->a=p->Q .cE H') E:=⟨λH' v y s e q a e1 e2=>by subst e1 e2;exact kk H' y s e q,kn⟩;have v0:∀{Hc:Hp},az Hb Hc->NT M E (RK CK k) (L ()) [L<|.ref p,L w1,L w2] Hc (au 1):=λs=>aj J aM<|aM.up s h1;have v1:∀{Hc:Hp},az Hb Hc->NT M E (ck K CB k) (L b) [L<|.ref p,L w1,L w2] Hc (au 2):=λs=>aj J cu<|cu.up s h2;refine lD (yU TB<|v1 sb) J hp T.cl (T.na _ dk) dc λu0 H0 s0 q0 p0=>?_;have c0:=gM (o:=.ins CM dx<|aY "place" u0 []) sb s0 hn;refine lD (wW TB<|v1 c0) J bp T.cl (T.na _ dk) (by show 1<1000;decide) λu1 U s1 q1 p1=>?_;have c1:=gM (o:=.ins CM dx (aY "turn" u1<|aY "place" u0 [])) c0 s1 hn;refine ui (rb:=pk k b) kk c1 (cP (t:=L ((),b,())) (f:=λx=>pk k x.2.1) (aF aM (v0 c1)<|aF cu (v1 c1) bQ)) J bp T.cl (T.na _ dk) (by show 2<1000;decide) λy2 u2 H2 s2 q2 p2 kk=>?_;have c2:=gM (o:=.ins CM dx<|aY "speed" u2 (aY "turn" u1<|aY "place" u0 [])) c1 s2 hn;have kk:bW M (jZ K CM k) Hb ((pw k b).bind λo=>L ⟨b.at_,b.turn,y2,o⟩) (λv H'=>∀a,v= .ref a->a=p->Q .cE H') E:=kk.eq<|by cases pw k b<;>rfl
 refine ui (rb:=pw k b) kk c2 (cP (t:=L ((),b,())) (f:=λx=>pw k x.2.1) (aF aM (v0 c2)<|aF cu (v1 c2) bQ)) J bp T.cl (T.na _ dk) (by show 3<1000;decide) λy3 u3 H3 s3 q3 p3 kk=>?_;have t3:cp H3<|aC H3 p (.ins CM dx<|AY u0 u1 u2 u3):=cp.aC (by rw[p3];trivial);have t2:cp H2 _:=((cp.aC (by rw[p2];trivial)).trans s3.i.1).trans t3;have t1:cp U _:=((cp.aC (by rw[p1];trivial)).trans s2.i.1).trans t2;have t0:cp H0 _:=((cp.aC (by rw[p0];trivial)).trans s1.i.1).trans t1;exact kk.ok _ (.ref p) _ (gM c2 s3 hn) J ⟨p,dx,u0,u1,u2,u3,J,bp,cO.up t0 q0,qt.up t1 q1,cO.up t2 q2,cO.up t3 q3⟩ p J J
theorem scPI:bE ["self","kind","motion","r"] ["self","kind","motion","r"]<|bw Us:=fs
abbrev NG(K:aq)(M CK CM CP:ak)(k:aB):Sp:=uY M CP (aQ (RK CK k) (aQ (jZ K CM k)<|aQ (R3 K k) cq)) (lW K CP k) λx=>f_ k x.2.1 x.2.2.1
theorem ok_pinit{f:ak}{fd:cX}(F:bz K "__init__" "Point.__init__" Us f fd)(B:BM P w K mg base M CK CB)(T:Tx K mg CP "Point" zd)(TM:Tx K mg CM "Motion" wI)(k:aB):aD P w K mg base (aO P w M) 12 f fd ["self","kind","motion","r"]<|NG K M CK CM CP k:=by
 refine F.oc scPI λH Q E hr h=>?_;obtain⟨Hb,p,dx,⟨_,m,r,_⟩,rr,rfl,hp,sb,hn,⟨w1,r2,rfl,h1,w2,r3,rfl,h2,w3,r4,rfl,h3,rfl⟩,kk,kn⟩:=h;refine⟨_,(aG (dH (O 0) (B.tu.c k hr aA<|bF (O 1) (bh<|O 2)<|O 3) J) (aG (dH (O 0) (B.V.add.c k hr aA (bF (O 1) (bh<|O 2) (bh<|O 0))) J) (aR<|dH (O 0) (B.V.add.c k hr aA (bF (O 1) (bh<|O 2)<|B.V.cross.c k hr aA (bF (O 1) (bh<|O 2) (bh<|O 0)))) J))),?_⟩;have kk:bW M (lW K CP k) Hb (f_ k m r) (λv H'=>∀a,v= .ref a->a=p->Q .cE H') E:=⟨λH' v y s e q a e1 e2=>by subst e1 e2;exact kk H' y s e q,kn⟩;have v0:∀{Hc:Hp},az Hb Hc->NT M E (RK CK k) (L ()) [L<|.ref p,L w1,L w2,L w3] Hc (au 1):=λs=>aj J aM<|aM.up s h1;have v1:∀{Hc:Hp},az Hb Hc->NT M E (jZ K CM k) (L m) [L<|.ref p,L w1,L w2,L w3] Hc (au 2):=λs=>aj J mn.m<|mn.m.up s h2;have v2:∀{Hc:Hp},az Hb Hc->NT M E (R3 K k) (L r) [L<|.ref p,L w1,L w2,L w3] Hc (au 3):=λs=>aj J bR<|bR.up s h3;refine ui (rb:=pq k m.turn r) kk sb (cP (t:=L ((),m.turn,r,())) (f:=λx=>pq k x.2.1 x.2.2.1) (aF aM (v0 sb)<|aF gu (nt_mt TM<|v1 sb)<|aF bR (v2 sb) bQ)) J hp T.cl (T.na _ dk) dc λy0 u0 H0 s0 q0 p0 kk=>?_;have c0:=gM (o:=.ins CP dx<|aY "arm" u0 []) sb s0 hn;have a0:R3 K k (aC H0 p (.ins CP dx<|aY "arm" u0 [])) u0 y0:=cO _ _ _ _ (cp.aC (by rw[p0];trivial)) q0;have va:NT M E (R3 K k) (L y0) [L<|.ref p,L w1,L w2,L w3] (aC H0 p (.ins CP dx<|aY "arm" u0 []))<|cZ K (au 0) "arm":=λU Q s k=>⟨_,J,p,CP,dx,_,u0,J,s _ _ bp,T.cl,T.na _ dk,by sleep 1,k.ok _ _ _ sr J<|bR.up s a0⟩;refine ui (rb:=iR k m.at_ y0) kk c0 (kJ (g:=iR k) (r:=L m.at_) (s:=L y0) (v0 c0) (nt_mp TM<|v1 c0) va) J bp T.cl (T.na _ dk) (by show 1<1000;decide) λy1 u1 U s1 q1 p1 kk=>?_;have c1:=gM (o:=.ins CP dx (aY "place" u1<|aY "arm" u0 [])) c0 s1 hn;have a1:R3 K k (aC U p<|.ins CP dx (aY "place" u1<|aY "arm" u0 [])) u0 y0:=cO _ _ _ _ (cp.aC (by rw[p1];trivial))<|bR.up s1 a0;have va:NT M E (R3 K k) (L y0) [L<|.ref p,L w1,L w2,L w3] (aC U p<|.ins CP dx (aY "place" u1<|aY "arm" u0 []))<|cZ K (au 0) "arm":=λU Q s k=>⟨_,J,p,CP,dx,_,u0,J,s _ _ bp,T.cl,T.na _ dk,by sleep 1,k.ok _ _ _ sr J<|bR.up s a1⟩
 have kk:bW M (lW K CP k) Hb (((kU k m.o y0).bind λc=>iR k m.v c).bind λu=>L ⟨y0,y1,u⟩) (λv H'=>∀a,v= .ref a->a=p->Q .cE H') E:=kk.eq (by
  cases kU k m.o y0 with
  |none=>rfl
  |some c=>show(iR k m.v c).map _=(iR k m.v c).bind _;cases iR k m.v c<;>rfl)
 have nc:=kJ (g:=kU k) (r:=L m.o) (s:=L y0) (v0 c1) (nt_mo TM<|v1 c1) va;refine ui kk c1 ((kJ (g:=iR k) (r:=L m.v) (s:=kU k m.o y0) (v0 c1) (nt_mv TM<|v1 c1) nc).eq<|by cases kU k m.o y0<;>rfl) J bp T.cl (T.na _ dk) (by show 2<1000;decide) λy2 u2 H2 s2 q2 p2 kk=>?_;have t2:cp H2<|aC H2 p (.ins CP dx<|Ee u0 u1 u2):=cp.aC (by rw[p2];trivial);have t1:cp U _:=((cp.aC (by rw[p1];trivial)).trans s2.i.1).trans t2;exact kk.ok _ (.ref p) _ (gM c1 s2 hn) J ⟨p,dx,u0,u1,u2,J,bp,cO _ _ _ _ (s2.i.1.trans t2) a1,cO.up t1 q1,cO.up t2 q2⟩ p J J
end
end BW
namespace BW
open PySem PySem.Spec PyProof.Rows L2
open Bw (bS cQ bf cn qX rh iu ic f_ qd jR lK kg ba)
abbrev oN:ag ax:=["first","second","first_point","second_point","stiffness","damping","rest"]
abbrev ur:ag ax:=["first_end","second_end","way","length"]
abbrev zG:ag ax:=["first_arm","second_arm","force"]
def oR(v0 v1 v2 v3 v4 v5 v6:V):ag<|ax×V:=aY "rest" v6 (aY "damping" v5<|aY "stiffness" v4 (aY "second_point" v3<|aY "first_point" v2 (aY "second" v1<|aY "first" v0 [])))
def zC(v0 v1 v2 v3:V):ag<|ax×V:=aY "length" v3<|aY "way" v2 (aY "second_end" v1<|aY "first_end" v0 [])
def Eg(v0 v1 v2:V):ag<|ax×V:=aY "force" v2 (aY "second_arm" v1<|aY "first_arm" v0 [])
def i8(K:aq)(CS:ak)(k:aB):bO j0:=λH v s=>∃a dx v2 v3 v4 v5 v6,v= .ref a/\H a=L (.ins CS dx<|oR (.int s.one) (.int s.other) v2 v3 v4 v5 v6)/\R3 K k H v2 s.from_/\R3 K k H v3 s.to/\RC K k H v4 s.stiff/\RC K k H v5 s.damp/\RC K k H v6 s.rest
def jG(K:aq)(CN CP:ak)(k:aB):bO iu:=λH v m=>∃a dx v0 v1 v2 v3,v= .ref a/\H a=L (.ins CN dx<|zC v0 v1 v2 v3)/\lW K CP k H v0 m.a/\lW K CP k H v1 m.b/\R3 K k H v2 m.I_/\RC K k H v3 m.bG
def tF(K:aq)(CU:ak)(k:aB):bO z9:=λH v m=>∃a dx v0 v1 v2,v= .ref a/\H a=L (.ins CU dx<|Eg v0 v1 v2)/\R3 K k H v0 m.from_/\R3 K k H v1 m.to/\R3 K k H v2 m.push
def z7(K:aq)(CU:ak)(k:aB):bO<|aw z9:=λH v m=>(v= .cE/\m=ah)\/ ∃p,m=L p/\tF K CU k H v p
section
variable{K:aq}{CS CN CP CU M:ak}{k:aB}{mg:ax->aw aE}{E:XK}{σ:L2.St}{H:Hp}{te:TE}
theorem eJ:kR<|i8 K CS k:=λ_ _ _ _ s⟨a,dx,v2,v3,v4,v5,v6,e,h,h2,h3,h4,h5,h6⟩=>⟨a,dx,v2,v3,v4,v5,v6,e,s.2 _ _ _ _ h,cO _ _ _ _ s.1 h2,cO _ _ _ _ s.1 h3,du _ _ _ _ s.1 h4,du _ _ _ _ s.1 h5,du _ _ _ _ s.1 h6⟩
theorem kG:kR<|jG K CN CP k:=λ_ _ _ _ s⟨a,dx,v0,v1,v2,v3,e,h,h0,h1,h2,h3⟩=>⟨a,dx,v0,v1,v2,v3,e,s.2 _ _ _ _ h,uq.up s h0,uq.up s h1,cO _ _ _ _ s.1 h2,du _ _ _ _ s.1 h3⟩
theorem LL:kR<|tF K CU k:=λ_ _ _ _ s⟨a,dx,v0,v1,v2,e,h,h0,h1,h2⟩=>⟨a,dx,v0,v1,v2,e,s.2 _ _ _ _ h,cO _ _ _ _ s.1 h0,cO _ _ _ _ s.1 h1,cO _ _ _ _ s.1 h2⟩
theorem Sa:kR<|z7 K CU k:=λ_ _ _ _ s h=>h.imp (λz=>z) λ⟨p,e,r⟩=>⟨p,e,LL.up s r⟩
theorem nt_sf(T:Tx K mg CS "Spring" oN)(h:NT M E (i8 K CS k) (L s) σ H te):NT M E (R3 K k) (L s.from_) σ H<|cZ K te "first_point":=gw h λ_ _⟨a,dx,v2,v3,v4,v5,v6,e,h,h2,h3,h4,h5,h6⟩=>⟨a,CS,dx,_,_,e,h,T.cl,T.na _ dk,by unfold oR;sleep 1,h2⟩
theorem nt_st(T:Tx K mg CS "Spring" oN)(h:NT M E (i8 K CS k) (L s) σ H te):NT M E (R3 K k) (L s.to) σ H<|cZ K te "second_point":=gw h λ_ _⟨a,dx,v2,v3,v4,v5,v6,e,h,h2,h3,h4,h5,h6⟩=>⟨a,CS,dx,_,_,e,h,T.cl,T.na _ dk,by unfold oR;sleep 1,h3⟩
theorem S9(T:Tx K mg CS "Spring" oN)(h:NT M E (i8 K CS k) (L s) σ H te):NT M E (RC K k) (L s.stiff) σ H<|cZ K te "stiffness":=gw h λ_ _⟨a,dx,v2,v3,v4,v5,v6,e,h,h2,h3,h4,h5,h6⟩=>⟨a,CS,dx,_,_,e,h,T.cl,T.na _ dk,by unfold oR;sleep 1,h4⟩
theorem nt_sd(T:Tx K mg CS "Spring" oN)(h:NT M E (i8 K CS k) (L s) σ H te):NT M E (RC K k) (L s.damp) σ H<|cZ K te "damping":=gw h λ_ _⟨a,dx,v2,v3,v4,v5,v6,e,h,h2,h3,h4,h5,h6⟩=>⟨a,CS,dx,_,_,e,h,T.cl,T.na _ dk,by unfold oR;sleep 1,h5⟩
theorem nt_sr(T:Tx K mg CS "Spring" oN)(h:NT M E (i8 K CS k) (L s) σ H te):NT M E (RC K k) (L s.rest) σ H<|cZ K te "rest":=gw h λ_ _⟨a,dx,v2,v3,v4,v5,v6,e,h,h2,h3,h4,h5,h6⟩=>⟨a,CS,dx,_,_,e,h,T.cl,T.na _ dk,by unfold oR;sleep 1,h6⟩
theorem S1(T:Tx K mg CN "Span" ur)(h:NT M E (jG K CN CP k) (L m) σ H te):NT M E (lW K CP k) (L m.a) σ H<|cZ K te "first_end":=gw h λ_ _⟨a,dx,v0,v1,v2,v3,e,h,h0,h1,h2,h3⟩=>⟨a,CN,dx,_,_,e,h,T.cl,T.na _ dk,by unfold zC;sleep 1,h0⟩
theorem S2(T:Tx K mg CN "Span" ur)(h:NT M E (jG K CN CP k) (L m) σ H te):NT M E (lW K CP k) (L m.b) σ H<|cZ K te "second_end":=gw h λ_ _⟨a,dx,v0,v1,v2,v3,e,h,h0,h1,h2,h3⟩=>⟨a,CN,dx,_,_,e,h,T.cl,T.na _ dk,by unfold zC;sleep 1,h1⟩
theorem nt_nw(T:Tx K mg CN "Span" ur)(h:NT M E (jG K CN CP k) (L m) σ H te):NT M E (R3 K k) (L m.I_) σ H<|cZ K te "way":=gw h λ_ _⟨a,dx,v0,v1,v2,v3,e,h,h0,h1,h2,h3⟩=>⟨a,CN,dx,_,_,e,h,T.cl,T.na _ dk,by unfold zC;sleep 1,h2⟩
theorem S3(T:Tx K mg CN "Span" ur)(h:NT M E (jG K CN CP k) (L m) σ H te):NT M E (RC K k) (L m.bG) σ H<|cZ K te "length":=gw h λ_ _⟨a,dx,v0,v1,v2,v3,e,h,h0,h1,h2,h3⟩=>⟨a,CN,dx,_,_,e,h,T.cl,T.na _ dk,by unfold zC;sleep 1,h3⟩
theorem nt_ua(T:Tx K mg CU "Push" zG)(h:NT M E (tF K CU k) (L m) σ H te):NT M E (R3 K k) (L m.from_) σ H<|cZ K te "first_arm":=gw h λ_ _⟨a,dx,v0,v1,v2,e,h,h0,h1,h2⟩=>⟨a,CU,dx,_,_,e,h,T.cl,T.na _ dk,by unfold Eg;sleep 1,h0⟩
theorem nt_ub(T:Tx K mg CU "Push" zG)(h:NT M E (tF K CU k) (L m) σ H te):NT M E (R3 K k) (L m.to) σ H<|cZ K te "second_arm":=gw h λ_ _⟨a,dx,v0,v1,v2,e,h,h0,h1,h2⟩=>⟨a,CU,dx,_,_,e,h,T.cl,T.na _ dk,by unfold Eg;sleep 1,h1⟩
theorem Hv(T:Tx K mg CU "Push" zG)(h:NT M E (tF K CU k) (L m) σ H te):NT M E (R3 K k) (L m.push) σ H<|cZ K te "force":=gw h λ_ _⟨a,dx,v0,v1,v2,e,h,h0,h1,h2⟩=>⟨a,CU,dx,_,_,e,h,T.cl,T.na _ dk,by unfold Eg;sleep 1,h2⟩
theorem zh{fs jw:ag (ax×V)}(ne:CP≠CN)(hp:H p=L (.ins CN dx fs))(h:lW K CP k H v m):lW K CP k (aC H p<|.ins CN dx jw) v m:=by
 obtain⟨a,d,v0,v1,v2,e,h,h0,h1,h2⟩:=h;have gR:a≠p:=λz=>by rw[z,hp] at h;cases h;exact ne J
 have s:cp H (aC H p<|.ins CN dx jw):=cp.aC (by rw[hp];trivial);exact⟨a,d,v0,v1,v2,e,by rw[bI gR];exact h,cO.up s h0,cO.up s h1,cO.up s h2⟩
end
def Vz(i j:af)(l:ag af):j0:=⟨i,j,⟨l.getD 0 0,l.getD 1 0,l.getD 2 0⟩,⟨l.getD 3 0,l.getD 4 0,l.getD 5 0⟩,l.getD 6 0,l.getD 7 0,l.getD 8 0⟩
def R9(K:aq)(k:aB):bO<|ag af:=λH v xs=>xV K (RC K k) H v xs/\xs.length=9
theorem Sh{K:aq}:cV<|R9 K k:=λ_ _ _ _ s h=>⟨AX aI _ _ _ _ s h.1,h.2⟩
def fC:bO af:=λ_ v n=>v= .int n
theorem ib:cV fC:=λ_ _ _ _ _ h=>h
section
variable{P:cN}{w:World}{K:aq}{mg:ax->aw aE}{base:b9}{M CK CB CM CP CS CN CU:ak}
abbrev Uv:dr:=rX (aN 55) 0
abbrev Uu:dr:=rX (aN 56) 0
abbrev Ut:dr:=rX (aN 57) 0
theorem scSI:bE ["self","first","second","numbers"] ["self","first","second","numbers"]<|bw Uv:=fs
abbrev NI(K:aq)(M CS:ak)(k:aB):Sp:=uY M CS (aQ fC (aQ fC<|aQ (R9 K k) cq)) (i8 K CS k) λx=>L<|Vz x.1 x.2.1 x.2.2.1
theorem ok_sinit{f:ak}{fd:cX}(F:bz K "__init__" "Spring.__init__" Uv f fd)(TC:jq mg)(T:Tx K mg CS "Spring" oN)(k:aB):aD P w K mg base (aO P w M) 12 f fd ["self","first","second","numbers"]<|NI K M CS k:=by
 refine F.oc scSI λH Q E hr h=>?_;obtain⟨Hb,p,dx,⟨i,j,l,_⟩,r,rfl,hp,sb,hn,⟨w1,r2,rfl,hi,w2,r3,rfl,hj,w3,r4,rfl,⟨hl,h9⟩,rfl⟩,kk,_⟩:=h;have hi:w1= .int (i:ae):=hi;have hj:w2= .int (j:ae):=hj;subst hi hj;refine⟨_,(aG (dH (O 0) (O 1) J) (aG (dH (O 0) (O 2) J)<|aG (dH (O 0) (nU qi J TC.tuple rG<|bu (lJ (lO.or xq) (O 3) (gb a_)<|gb a_)) J) (aG (dH (O 0) (nU qi J TC.tuple rG<|bu (lJ (lO.or xq) (O 3) (gb a_)<|gb a_)) J) (aG (dH (O 0) (dY jb (O 3) a_ λ_ _=>J) J)<|aG (dH (O 0) (dY jb (O 3) a_ λ_ _=>J) J) (aR<|dH (O 0) (dY jb (O 3) a_ λ_ _=>J) J))))),?_⟩;obtain⟨a0,a1,a2,a3,a4,a5,a6,a7,a8,rfl⟩:∃a0 a1 a2 a3 a4 a5 a6 a7 a8,l=[a0,a1,a2,a3,a4,a5,a6,a7,a8]:=by
  obtain⟨a0,l0,rfl,g0⟩:=dQ h9;obtain⟨a1,l1,rfl,g1⟩:=dQ g0;obtain⟨a2,l2,rfl,g2⟩:=dQ g1;obtain⟨a3,l3,rfl,g3⟩:=dQ g2;obtain⟨a4,l4,rfl,g4⟩:=dQ g3;obtain⟨a5,l5,rfl,g5⟩:=dQ g4;obtain⟨a6,l6,rfl,g6⟩:=dQ g5;obtain⟨a7,l7,rfl,g7⟩:=dQ g6;obtain⟨a8,l8,rfl,g8⟩:=dQ g7
  cases l8 with
  |nil=>exact⟨a0,a1,a2,a3,a4,a5,a6,a7,a8,J⟩
  |cons x t=>cases g8
 have hv:∀{Hc:Hp},az Hb Hc->NT M E (xV K<|RC K k) (L [a0,a1,a2,a3,a4,a5,a6,a7,a8]) [L<|.ref p,L<|.int (i:ae),L<|.int (j:ae),L w3] Hc (au 3):=λs=>aj J (AX aI)<|AX aI _ _ _ _ s hl;refine lD (aj (C:=M) (E:=E) (R:=fC) (y:=i) J ib J) J hp T.cl (T.na _ dk) dc λv0 H0 s0 q0 p0=>?_;have q0:v0= .int (i:ae):=q0;subst q0;have b0:=gM (o:=.ins CS dx<|aY "first" (.int (i:ae)) []) sb s0 hn;refine lD (aj (C:=M) (E:=E) (R:=fC) (y:=j) J ib J) J bp T.cl (T.na _ dk) (by show 1<1000;decide) λv1 U s1 q1 p1=>?_;have q1:v1= .int (j:ae):=q1;subst q1;have b1:=gM (o:=.ins CS dx (aY "second" (.int (j:ae))<|aY "first" (.int (i:ae)) [])) b0 s1 hn;refine lD (wY aI (a:=0) (b:=3) (hv b1) (by show 3<=9;decide) (by show¬(0=0/\3=9);decide) dc) J bp T.cl (T.na _ dk) (by show 2<1000;decide) λv2 H2 s2 q2 p2=>?_;have b2:=gM (o:=.ins CS dx<|aY "first_point" v2 (aY "second" (.int (j:ae))<|aY "first" (.int (i:ae)) [])) b1 s2 hn;refine lD (wY aI (a:=3) (b:=6) (hv b2) (by show 6<=9;decide) (by show¬(3=0/\6=9);decide) dc) J bp T.cl (T.na _ dk) (by show 3<1000;decide) λv3 H3 s3 q3 p3=>?_;have b3:=gM (o:=.ins CS dx (aY "second_point" v3<|aY "first_point" v2 (aY "second" (.int (j:ae))<|aY "first" (.int (i:ae)) []))) b2 s3 hn;refine lD (Hi aI 6 (hv b3) J) J bp T.cl (T.na _ dk) (by show 4<1000;decide) λv4 H4 s4 q4 p4=>?_;have b4:=gM (o:=.ins CS dx<|aY "stiffness" v4 (aY "second_point" v3<|aY "first_point" v2 (aY "second" (.int (j:ae))<|aY "first" (.int (i:ae)) []))) b3 s4 hn;refine lD (Hi aI 7 (hv b4) J) J bp T.cl (T.na _ dk) (by show 5<1000;decide) λv5 H5 s5 q5 p5=>?_;have b5:=gM (o:=.ins CS dx (aY "damping" v5<|aY "stiffness" v4 (aY "second_point" v3<|aY "first_point" v2 (aY "second" (.int (j:ae))<|aY "first" (.int (i:ae)) [])))) b4 s5 hn;refine lD (Hi aI 8 (hv b5) J) J bp T.cl (T.na _ dk) (by show 6<1000;decide) λv6 H6 s6 q6 p6=>?_;have t6:cp H6<|aC H6 p (.ins CS dx<|oR (.int (i:ae)) (.int (j:ae)) v2 v3 v4 v5 v6):=cp.aC (by rw[p6];trivial);have t5:cp H5 _:=((cp.aC (by rw[p5];trivial)).trans s6.i.1).trans t6;have t4:cp H4 _:=((cp.aC (by rw[p4];trivial)).trans s5.i.1).trans t5;have t3:cp H3 _:=((cp.aC (by rw[p3];trivial)).trans s4.i.1).trans t4;have t2:cp H2 _:=((cp.aC (by rw[p2];trivial)).trans s3.i.1).trans t3;exact kk _ _ (gM b5 s6 hn) J ⟨p,dx,v2,v3,v4,v5,v6,J,bp,cO.up t2<|uN q2,cO.up t3<|uN q3,du.up t4 q4,du.up t5 q5,du.up t6 q6⟩
theorem scUI:bE ["self","first_arm","second_arm","force"] ["self","first_arm","second_arm","force"]<|bw Ut:=fs
abbrev NN(K:aq)(M CU:ak)(k:aB):Sp:=uY M CU (aQ (R3 K k) (aQ (R3 K k)<|aQ (R3 K k) cq)) (tF K CU k) λx=>L ⟨x.1,x.2.1,x.2.2.1⟩
theorem ok_uinit(F:bz K "__init__" "Push.__init__" Ut f fd)(T:Tx K mg CU "Push" zG)(k:aB):aD P w K mg base (aO P w M) 12 f fd ["self","first_arm","second_arm","force"]<|NN K M CU k:=by
 refine F.oc scUI λH Q E hr h=>?_;obtain⟨Hb,p,dx,⟨a,b,c,_⟩,r,rfl,hp,sb,hn,⟨w1,r2,rfl,h1,w2,r3,rfl,h2,w3,r4,rfl,h3,rfl⟩,kk,_⟩:=h;refine⟨_,(aG (dH (O 0) (O 1) J)<|aG (dH (O 0) (O 2) J) (aR<|dH (O 0) (O 3) J)),?_⟩;refine⟨_,J,_,J,p,CU,dx,_,J,hp,T.cl,T.na _ dk,(by decide),?_⟩;refine⟨_,J,_,J,p,CU,dx,_,J,bp,T.cl,T.na _ dk,(by show 1<1000;decide),?_⟩;refine⟨_,J,_,J,p,CU,dx,_,J,bp,T.cl,T.na _ dk,(by show 2<1000;decide),?_⟩;have b0:=gM (o:=.ins CU dx<|aY "first_arm" w1 []) sb sr hn;have b1:=gM (o:=.ins CU dx (aY "second_arm" w2<|aY "first_arm" w1 [])) b0 sr hn;have b2:=gM (o:=.ins CU dx<|Eg w1 w2 w3) b1 sr hn;exact kk _ _ b2 J ⟨p,dx,w1,w2,w3,J,bp,bR.up b2 h1,bR.up b2 h2,bR.up b2 h3⟩
theorem scNI:bE ["self","kind","spring","first_motion","second_motion"] ["self","kind","spring","first_motion","second_motion"]<|bw Uu:=fs
abbrev NC(K:aq)(M CK CS CM CN CP:ak)(k:aB):Sp:=uY M CN (aQ (RK CK k)<|aQ (i8 K CS k) (aQ (jZ K CM k)<|aQ (jZ K CM k) cq)) (jG K CN CP k) λx=>qd k x.2.1 x.2.2.1 x.2.2.2.1
theorem ok_ninit{f fP:ak}{fd Qz:cX}(F:bz K "__init__" "Span.__init__" Uu f fd)(B:BM P w K mg base M CK CB)(T:Tx K mg CN "Span" ur)(TS:Tx K mg CS "Spring" oN)(TP:Tx K mg CP "Point" zd)(ne:CP≠CN)
 (MP:Mk K CP fP) (OP:∀k,aD P w K mg base (aO P w M) 12 fP Qz ["self","kind","motion","r"]<|NG K M CK CM CP k) (bP:Binds K Qz ["self","kind","motion","r"] []) (k:aB):aD P w K mg base (aO P w M) 16 f fd ["self","kind","spring","first_motion","second_motion"]<|NC K M CK CS CM CN CP k:=by
 obtain⟨f3,fh,M3,b3,O3⟩:=B.V.aJ.root;refine F.oc scNI λH Q E hr h=>?_;obtain⟨Hb,p,dx,⟨_,sp,ma,mb,_⟩,rr,rfl,hp,sb,hn,⟨w1,r2,rfl,h1,w2,r3,rfl,h2,w3,r4,rfl,h3,w4,r5,rfl,h4,rfl⟩,kk,kn⟩:=h;refine⟨_,(aG (dH (O 0) (oI MP (OP k) (hr.aV dc) J TP.m bP .nil aA<|bF (O 1) (O 3) (bh<|O 2)) J) (aG (dH (O 0) (oI MP (OP k) (hr.aV dc) J TP.m bP .nil aA<|bF (O 1) (O 4) (bh<|O 2)) J) (aG (dH (O 0) (B.V.sub.c k hr aA (bF (O 1) (bh (bh<|O 0))<|bh (bh<|O 0))) J) (aR<|dH (O 0) (bV (O 1) B.V.aJ.T.cl M3 (O3 k) (hr.aV dc) b3 .nil aA (bu<|B.V.dot.c k hr aA (bF (O 1) (bh<|O 0) (bh<|O 0)))) J)))),?_⟩;have kk:bW M (jG K CN CP k) Hb (qd k sp ma mb) (λv H'=>∀a,v= .ref a->a=p->Q .cE H') E:=⟨λH' v y s e q a e1 e2=>by subst e1 e2;exact kk H' y s e q,kn⟩;have v0:∀{Hc:Hp},az Hb Hc->NT M E (RK CK k) (L ()) [L<|.ref p,L w1,L w2,L w3,L w4] Hc (au 1):=λs=>aj J aM<|aM.up s h1;have v1:∀{Hc:Hp},az Hb Hc->NT M E (i8 K CS k) (L sp) [L<|.ref p,L w1,L w2,L w3,L w4] Hc (au 2):=λs=>aj J eJ.m<|eJ.m.up s h2;have v2:∀{Hc:Hp},az Hb Hc->NT M E (jZ K CM k) (L ma) [L<|.ref p,L w1,L w2,L w3,L w4] Hc (au 3):=λs=>aj J mn.m<|mn.m.up s h3;have v3:∀{Hc:Hp},az Hb Hc->NT M E (jZ K CM k) (L mb) [L<|.ref p,L w1,L w2,L w3,L w4] Hc (au 4):=λs=>aj J mn.m<|mn.m.up s h4;refine ui (rb:=f_ k ma sp.from_) kk sb (yX (t:=L ((),ma,sp.from_,())) (f:=λx=>f_ k x.2.1 x.2.2.1)<|aF aM (v0 sb) (aF mn.m (v2 sb)<|aF bR (nt_sf TS<|v1 sb) bQ)) J hp T.cl (T.na _ dk) dc λy0 u0 H0 s0 q0 p0 kk=>?_;have c0:=gM (o:=.ins CN dx<|aY "first_end" u0 []) sb s0 hn;have a0:=zh (jw:=aY "first_end" u0 []) ne p0 q0;refine ui (rb:=f_ k mb sp.to) kk c0 (yX (t:=L ((),mb,sp.to,())) (f:=λx=>f_ k x.2.1 x.2.2.1)<|aF aM (v0 c0) (aF mn.m (v3 c0)<|aF bR (nt_st TS<|v1 c0) bQ)) J bp T.cl (T.na _ dk) (by show 1<1000;decide) λy1 u1 U s1 q1 p1 kk=>?_;have c1:=gM (o:=.ins CN dx (aY "second_end" u1<|aY "first_end" u0 [])) c0 s1 hn;have a1:=zh (jw:=aY "second_end" u1<|aY "first_end" u0 []) ne p1<|uq.m.up s1 a0;have e1:=zh (jw:=aY "second_end" u1<|aY "first_end" u0 []) ne p1 q1;have va:NT M E (lW K CP k) (L y0) [L<|.ref p,L w1,L w2,L w3,L w4] (aC U p<|.ins CN dx (aY "second_end" u1<|aY "first_end" u0 []))<|cZ K (au 0) "first_end":=λH2 Q s k=>⟨_,J,p,CN,dx,_,u0,J,s _ _ bp,T.cl,T.na _ dk,by sleep 1,k.ok _ _ _ sr J<|uq.m.up s a1⟩;have vb:NT M E (lW K CP k) (L y1) [L<|.ref p,L w1,L w2,L w3,L w4] (aC U p<|.ins CN dx (aY "second_end" u1<|aY "first_end" u0 []))<|cZ K (au 0) "second_end":=λH2 Q s k=>⟨_,J,p,CN,dx,_,u1,J,s _ _ bp,T.cl,T.na _ dk,by sleep 1,k.ok _ _ _ sr J<|uq.m.up s e1⟩;refine ui (rb:=wK k y1.at_ y0.at_) kk c1 (kJ (g:=wK k) (r:=L y1.at_) (s:=L y0.at_) (v0 c1) (S7 TP vb)<|S7 TP va) J bp T.cl (T.na _ dk) (by show 2<1000;decide) λy2 u2 H2 s2 q2 p2 kk=>?_;have c2:=gM (o:=.ins CN dx<|aY "way" u2 (aY "second_end" u1<|aY "first_end" u0 [])) c1 s2 hn;have a2:=zh (jw:=aY "way" u2 (aY "second_end" u1<|aY "first_end" u0 [])) ne p2<|uq.m.up s2 a1;have e2:=zh (jw:=aY "way" u2 (aY "second_end" u1<|aY "first_end" u0 [])) ne p2<|uq.m.up s2 e1;have We:R3 K k (aC H2 p (.ins CN dx<|aY "way" u2 (aY "second_end" u1<|aY "first_end" u0 []))) u2 y2:=cO _ _ _ _ (cp.aC (by rw[p2];trivial)) q2;have vw:NT M E (R3 K k) (L y2) [L<|.ref p,L w1,L w2,L w3,L w4] (aC H2 p<|.ins CN dx _)<|cZ K (au 0) "way":=λH3 Q s k=>⟨_,J,p,CN,dx,_,u2,J,s _ _ bp,T.cl,T.na _ dk,by sleep 1,k.ok _ _ _ sr J<|bR.up s We⟩;have kk:bW M (jG K CN CP k) Hb (((lX k y2 y2).bind<|vU k).bind λl=>L ⟨y0,y1,y2,l⟩) (λv H'=>∀a,v= .ref a->a=p->Q .cE H') E:=kk.eq<|by cases(lX k y2 y2).bind (vU k)<;>rfl
 have nd:NT M E (RC K k) (lX k y2 y2) [L<|.ref p,L w1,L w2,L w3,L w4] (aC H2 p<|.ins CN dx _) _:=cP (t:=L ((),y2,y2,())) (f:=λx=>lX k x.2.1 x.2.2.1)<|aF aM (v0 c2) (aF bR vw<|aF bR vw bQ);refine ui (rb:=(lX k y2 y2).bind<|vU k) kk c2 (SY (g:=vU k) Sz (v0 c2) nd) J bp T.cl (T.na _ dk) (by show 3<1000;decide) λy3 u3 H3 s3 q3 p3 kk=>?_;have t3:cp H3<|aC H3 p (.ins CN dx<|zC u0 u1 u2 u3):=cp.aC (by rw[p3];trivial);exact kk.ok _ (.ref p) _ (gM c2 s3 hn) J ⟨p,dx,u0,u1,u2,u3,J,bp,zh ne p3<|uq.m.up s3 a2,zh ne p3<|uq.m.up s3 e2,cO _ _ _ _ (s3.i.1.trans t3) We,du.up t3 q3⟩ p J J
end
end BW
namespace BW
open PySem PySem.Spec PyProof.Rows L2
open Bw (bS cQ bf cn qX rh iu ic f_ qd jR lK kg ba)
section
variable{α:Type}{K:aq}{R:bO α}{H:Hp}
def fI(R:bO α):bO<|ag α:=λH v xs=>∃p vs,v= .ref p/\H p=L (.lst vs)/\cf (R H) vs xs
theorem mono_ls(m:cV R):cV<|fI R:=λH H' v xs s⟨p,vs,e,h,a⟩=>⟨p,vs,e,s _ _ h,a.imp λv x=>m H H' v x s⟩
theorem Ei(h:fI R H v xs):RL K R H v xs:=let⟨p,vs,e,h,a⟩:=h;⟨p,vs,e,SqL.of h,a⟩
end
section
variable{K:aq}{M CK:ak}{E:XK}{σ:L2.St}{H:Hp}{t0 t1 t2 t3 te:TE}{k:aB}
theorem Hl(h0:NT M E (RK CK k) (L ()) σ H t0)(h1:NT M E (R3 K k) r σ H t1)(h2:NT M E (R3 K k) s σ H t2):NT M E (RC K k) (r.bind λa=>s.bind λb=>g a b) σ H (d8 (Nk K M CK k g) [] E<|aU t0 (aU t1<|aU t2 b8)):=NT.eq (cP<|aF aM h0 (aF bR h1<|aF bR h2 bQ))<|by cases r<;>cases s<;>rfl
theorem SO(h0:NT M E (RK CK k) (L ()) σ H t0)(h1:NT M E (RC K k) r σ H t1)(h2:NT M E (R3 K k) s σ H t2):NT M E (R3 K k) (r.bind λa=>s.bind λb=>g a b) σ H (d8 (Nh K M CK k g) [] E<|aU t0 (aU t1<|aU t2 b8)):=NT.eq (cP<|aF aM h0 (aF aI h1<|aF bR h2 bQ))<|by cases r<;>cases s<;>rfl
theorem nt_g31(h0:NT M E (RK CK k) (L ()) σ H t0)(h1:NT M E (R3 K k) r σ H t1)(h2:NT M E (RC K k) s σ H t2):NT M E (R3 K k) (r.bind λa=>s.bind λb=>g a b) σ H (d8 (Nj K M CK k g) [] E<|aU t0 (aU t1<|aU t2 b8)):=NT.eq (cP<|aF aM h0 (aF bR h1<|aF aI h2 bQ))<|by cases r<;>cases s<;>rfl
theorem _root_.L2.NT.mapR{R':bO β}{r:aw α}{g:α->β}(h:NT C E R r σ H te)(w:∀H v y,R H v y->R' H v (g y)):NT C E R' (r.map g) σ H te:=λU Q s k=>
 h U Q s ⟨λH' v x s' e q=>k.ok H' v _ s' (by rw[e];rfl)<|w _ _ _ q,λH' s' e=>k.no H' s' (by rw[e];rfl)⟩
end
section
variable{P:cN}{w:World}{K:aq}{mg:ax->aw aE}{base:b9}{M CK CB CM CP CS CN CU:ak}
abbrev NK(K:aq)(M CK CS CN CP:ak)(k:aB):Sp:=c7 M (aQ (RK CK k) (aQ (i8 K CS k)<|aQ (jG K CN CP k) cq)) (RC K k) λx=>kg k x.2.1 x.2.2.1
theorem scSt:bE ["kind","spring","span"] ["kind","spring","span"] (bw<|aN 59):=fs
theorem Th(F:bz K "stretch" "stretch" (aN 59) f fd)(B:BM P w K mg base M CK CB)(TS:Tx K mg CS "Spring" oN)(TN:Tx K mg CN "Span" ur)(k:aB):aD P w K mg base (aO P w M) 20 f fd ["kind","spring","span"]<|NK K M CK CS CN CP k:=by
 obtain⟨f1,bZ,M1,b1,O1⟩:=B.V.aJ.sub;refine F.oc scSt λH Q E hr h=>?_;obtain⟨⟨_,sp,sn,_⟩,⟨w1,r1,rfl,h1,w2,r2,rfl,h2,w3,r3,rfl,h3,rfl⟩,kk⟩:=h;refine⟨_,(aR (bg<|bV (O 0) B.V.aJ.T.cl M1 (O1 k) (hr.aV dc) b1 .nil aA (bJ (bh<|O 2) (bh<|O 1)))),?_⟩;exact kk.by (Bd h1.1 (aj J aM h1) (S3 TN<|aj J kG.m h3) (nt_sr TS<|aj J eJ.m h2))
abbrev Nt(K:aq)(M CK CS CN CP CU:ak)(k:aB):Sp:=c7 M (aQ (RK CK k) (aQ (i8 K CS k)<|aQ (jG K CN CP k) cq)) (z7 K CU k) λx=>lK k x.2.1 x.2.2.1
theorem Eo:bE ["kind","spring","span","e","u","c","f"] ["kind","spring","span"] (bw<|aN 60):=fs
theorem ok_findPush{f f4 fU:ak}{fd hU QA:cX}(F:bz K "find_push" "find_push" (aN 60) f fd)(B:BM P w K mg base M CK CB)(TS:Tx K mg CS "Spring" oN)(TN:Tx K mg CN "Span" ur)(TP:Tx K mg CP "Point" zd)(TU:Tx K mg CU "Push" zG)
 (G4:Gf K mg "stretch" (aN 59) f4 hU ["kind","spring","span"]) (MU:Mk K CU fU) (OU:∀k,aD P w K mg base (aO P w M) 12 fU QA ["self","first_arm","second_arm","force"]<|NN K M CU k) (bU:Binds K QA ["self","first_arm","second_arm","force"] []) (k:aB):aD P w K mg base (aO P w M) 24 f fd ["kind","spring","span"]<|Nt K M CK CS CN CP CU k:=by
 have O4:=λk=>Th (P:=P) (w:=w) (base:=base) (CP:=CP) G4.F B TS TN k;have m4:=G4.m;have k4:=G4.F.kp;have b4:=G4.b;obtain⟨f6,fd6,M6,b6,O6⟩:=B.V.aJ.mul;obtain⟨f7,fd7,M7,b7,O7⟩:=B.V.aJ.nms;refine F.oc Eo λH Q E hr h=>?_;obtain⟨⟨_,sp,sn,_⟩,⟨w1,r1,rfl,h1,w2,r2,rfl,h2,w3,r3,rfl,h3,rfl⟩,kk⟩:=h;refine⟨_,(aG (dU (dB iQ (aX (bh<|O 2)) a_<|cT _) (aR<|bg nV) d5) (aG (bA 3 Eo.nd<|B.V.Zi.c k hr aA (bF (O 0) (bh<|O 2) (bh<|O 2))) (aG (bA 4 Eo.nd (B.V.dot.c k hr aA<|bF (O 0) (O 3) (B.V.sub.c k hr aA (bF (O 0) (bh (bh<|O 2))<|bh (bh<|O 2))))) (aG (bA 5 Eo.nd (bV (O 0) B.V.aJ.T.cl M6 (O6 k) (hr.aV dc) b6 .nil aA<|bJ (bh<|O 1)<|O 4)) (aG (bA 6 Eo.nd (bV (O 0) B.V.aJ.T.cl M7 (O7 k) (hr.aV dc) b7 .nil aA<|bF (bh<|O 1) (cJ (O4 k) (hr.aV dc) J m4 k4 b4 .nil aA (bF (O 0) (O 1)<|O 2))<|O 5)) (aR (bg (oI MU (OU k) (hr.aV dc) J TU.m bU .nil aA<|bF (bh (bh<|O 2)) (bh (bh<|O 2))<|B.V.M9.c k hr aA (bF (O 0) (O 6)<|O 3))))))))),?_⟩;have kk:bW M (z7 K CU k) H (lK k sp sn) Q E:=kk;have hk:=h1.1;have KY:=h3;obtain⟨a,dx,u0,u1,u2,u3,rfl,ha,_,_,_,⟨b,rfl,hb⟩,fl⟩:=KY;have zz:=Bw.rep_isZero<|cn.bf hk fl;refine⟨_,J,a,CN,dx,_,_,J,ha,TN.cl,TN.na _ dk,by unfold zC;sleep 1,b,_,_,_,J,J,hb,J,_,_,J,J,_,J,d4 (λc=>?_) λc=>?_⟩
 ·have c:(bf k sn.bG).1=0:=dE c
  refine kk.ok _ _ ah sr ?_<|.inl ⟨J,J⟩;unfold lK;rw[aH<|zz.mp c]
 ·have c:¬(bf k sn.bG).1=0:=λz=>c<|dD z
  have kk:=kk.eq (by
   unfold lK
   rw[ay λz=>c<|zz.mpr z])
  have v0:∀{σ:L2.St}{Hc:Hp},σ[0]? =L (L w1)->az H Hc->NT M E (RK CK k) (L ()) σ Hc (au 0):=λe s=>aj e aM<|aM.up s h1;have v1:∀{σ:L2.St}{Hc:Hp},σ[1]? =L (L w2)->az H Hc->NT M E (i8 K CS k) (L sp) σ Hc (au 1):=λe s=>aj e eJ.m<|eJ.m.up s h2;have v2:∀{σ:L2.St}{Hc:Hp},σ[2]? =L (L<|.ref a)->az H Hc->NT M E (jG K CN CP k) (L sn) σ Hc (au 2):=λe s=>aj e kG.m<|kG.m.up s h3;refine bW.bindB (σ:=[L w1,L w2,L<|.ref a,ah,ah,ah,ah]) kk sr (nt_g31 (g:=Pp k) (r:=L sn.I_) (s:=L sn.bG) (v0 J sr) (nt_nw TN<|v2 J sr) (S3 TN<|v2 J sr)) λe ue U s1 _ q1 kk=>?_;have n2:NT M E (RC K k) ((wK k sn.b.v sn.a.v).bind λv=>lX k e v) [L w1,L w2,L<|.ref a,L ue,ah,ah,ah] U _:=Hl (g:=lX k) (r:=L e) (s:=wK k sn.b.v sn.a.v) (v0 J s1) (aj (i:=3) J bR q1) (kJ (g:=wK k) (r:=L sn.b.v) (s:=L sn.a.v) (v0 J s1) (S8 TP (S2 TN<|v2 J s1))<|S8 TP (S1 TN<|v2 J s1));refine bW.bindB kk s1 n2 λu uu H2 s2 _ q2 kk=>?_;have ji:=s1.trans s2;refine bW.bindB (σ:=[L w1,L w2,L<|.ref a,L ue,L uu,ah,ah]) kk ji (qE hk (v0 J ji) (nt_sd TS<|v1 J ji)<|aj (i:=4) J aI q2) λc uc H3 s3 _ q3 kk=>?_;have pX:=ji.trans s3;have n4:NT M E (RC K k) (kg k sp sn) [L w1,L w2,L<|.ref a,L ue,L uu,L uc,ah] H3 _:=cP (t:=L ((),sp,sn,())) (f:=λx=>kg k x.2.1 x.2.2.1)<|aF aM (v0 J pX) (aF eJ.m (v1 J pX)<|aF kG.m (v2 J pX) bQ);have n5:=uB (g:=Po k) (r:=L sp.stiff) (s:=kg k sp sn) (t:=L c) noFusedOpp (v0 J pX) ((S9 TS<|v1 J pX).cW λ_ _ _=>dS hk) (n4.cW λ_ _ _=>dS hk) ((aj (i:=5) J aI q3).cW λ_ _ _=>dS hk);refine bW.bindB kk pX n5 λf uf H4 s4 _ q4 kk=>?_;have sG:=pX.trans s4;have n6:NT M E (R3 K k) (vV k f e) [L w1,L w2,L<|.ref a,L ue,L uu,L uc,L uf] H4 _:=SO (g:=vV k) (r:=L f) (s:=L e) (v0 J sG) (aj (i:=6) J aI q4) (aj (i:=3) J bR<|bR _ _ _ _ ((s2.trans s3).trans s4) q1);have n7:=yX (D:=CU) (R:=tF K CU k) (f:=λx=>L (⟨x.1,x.2.1,x.2.2.1⟩:z9))<|aF bR (S5 TP (S1 TN<|v2 J sG))<|aF bR (S5 TP (S2 TN<|v2 J sG))<|aF bR n6 bQ;refine bW.gQ kk sG ((n7.mapR (R':=z7 K CU k) (g:=L) λ_ _ y q=>.inr ⟨y,J,q⟩).eq ?_);show _=(vV k f e).map _
  cases vV k f e<;>rfl
def oo(n:af)(ss:ag j0):Prop:=∀s∈ss,s.one<n/\s.other<n/\s.one≠s.other
abbrev EZ(K:aq)(CK CB CS:ak)(k:aB):fV<|j1×ag ff×ag j0×j1:=rj (aQ (RK CK k) (aQ (RL K<|ck K CB k)<|aQ (RL K<|i8 K CS k) cq)) λx=>oo x.2.1.length x.2.2.1/\x.2.1.length<=4096/\x.2.2.1.length<=8192
def fS(k:aB)(x:j1×ag ff×ag j0×j1):aw<|ag iu:=ba (jR k {bodies:=x.2.1}) x.2.2.1
abbrev Iz(K:aq)(M CK CB CS CN CP:ak)(k:aB):Sp:=c7 M (EZ K CK CB CS k) (fI<|jG K CN CP k)<|fS k
theorem Er:bE ["kind","bodies","springs","motions","spans","spring","i"] ["kind","bodies","springs"] (bw<|aN 58):=fs
def B3(K:aq)(CM:ak)(k:aB)(bs:ag ff)(H:Hp)(aW:ag<|gV×V):Prop:=∀(i:af)v,fw aW (eP i)=L v-> ∃m,ic k (bs.getD i default)=L m/\jZ K CM k H v m
theorem B3.same(h:B3 K CM k bs H aW)(s:fJ H H'):B3 K CM k bs H' aW:=λi v e=>let⟨m,e1,r⟩:=h i v e;⟨m,e1,mn.up s r⟩
theorem qB{R:bO α}{xs:ag α}(m:cV R)(h1:NT M E (RL K R) (L xs) σ H t1)(h2:NT M E fC (L n) σ H t2)(hx:xs[n]? =L x):NT M E R (L x) σ H<|bY (lL K) t1 t2:=λU Q s k=>by
 refine(h1.at_ s).go λv H2 s2 q=>(h2.at_<|s.trans s2).go λu H3 s3 q3=>?_;obtain⟨p,vs,rfl,hp,ha⟩:=cw m _ _ _ _ s3 q;subst q3;obtain⟨v,hv,r⟩:=ha.rO hx;exact⟨p,vs,n,v,J,J,hp,tO hv,k.ok _ _ _ (s2.trans s3) J r⟩
theorem ok_findSpans{f fM fN:ak}{fd Qx Qy:cX}(F:bz K "find_spans" "find_spans" (aN 58) f fd)(TS:Tx K mg CS "Spring" oN)(TN:Tx K mg CN "Span" ur)(TM:Tx K mg CM "Motion" wI)
 (MM:Mk K CM fM) (OM:∀k,aD P w K mg base (aO P w M) 12 fM Qx ["self","kind","body"]<|Nz K M CK CB CM k) (bM:Binds K Qx ["self","kind","body"] [])
 (MN:Mk K CN fN) (ON:∀k,aD P w K mg base (aO P w M) 16 fN Qy ["self","kind","spring","first_motion","second_motion"]<|NC K M CK CS CM CN CP k) (bN:Binds K Qy ["self","kind","spring","first_motion","second_motion"] []) (k:aB):aD P w K mg base (aO P w M) 20 f fd ["kind","bodies","springs"]<|Iz K M CK CB CS CN CP k:=by
 refine F.oc Er λH Q E hr h=>?_;obtain⟨⟨_,bs,ss,_⟩,⟨⟨w1,r1,rfl,h1,w2,r2,rfl,h2,w3,r3,rfl,h3,rfl⟩,j8,oC,AQ⟩,kk⟩:=h
 refine⟨_,(aG (bA 3 Er.nd Ts) (aG (bA 4 Er.nd<|gj uH) (aG (nW mr J (jf<|O 2) (ej 5 Er.nd)
  (aG (nW mr J (pi_tup<|fO (bJ (bh<|O 5) (bh<|O 5))) (ej 6 Er.nd)
    (aR (dU (pt_cmp (pc_dnotin (lA hr) (O 6)<|O 3)) (aR<|TV (lA hr) (O 3) (O 6) (oI MM (OM k) (hr.aV dc) J TM.m bM .nil aA (bJ (O 0)<|dY j9 (O 1) (O 6) λ_ _=>J)) J) d5)))
  (aR<|pU (uJ vM Ce Cf AZ (O 4)<|bu (oI MN (ON k) (hr.aV dc) J TN.m bN .nil aA<|dz (O 0) (bF (O 5) (oG (lA hr) (O 3) (bh<|O 5) λ_ _=>J) (oG (lA hr) (O 3) (bh<|O 5) λ_ _=>J)))))))
  (aR (bg<|O 4))))),?_⟩
 have oC:bs.length<=4096:=oC;have AQ:ss.length<=8192:=AQ;have j8:oo bs.length ss:=j8;obtain⟨p2,bv,rfl,lu,a2⟩:=id h2;obtain⟨p3,sv,rfl,rV,a3⟩:=h3;refineλd hd=>⟨eI _,λl hl=>?_⟩;have Gx:l≠d:=λz=>by rw[z,bp] at hl;cases hl
 have Dj:H l=ah:=by rw[bI Gx] at hl;exact hl
 refine⟨_,J,p3,J,⟨sv,(az.new hd).trans (az.new hl)|>.seq rV⟩,Ay (K:=K) (xs:=sv) (λj aS H'=>∃(x5 x6:aw V)(aW:ag<|gV×V)(d6:ag V)(zs:ag iu),aS=[L w1,L<|.ref p2,L<|.ref p3,L<|.ref d,L<|.ref l,x5,x6]/\az H H'/\H' d=L (.dK aW)/\B3 K CM k bs H' aW/\H' l=L (.lst d6)/\cf (jG K CN CP k H') d6 zs/\ba (jR k {bodies:=bs}) (ss.take j)=L zs/\aW.length<=2*j)
  ⟨ah,ah,[],[],[],J,(az.new hd).trans<|az.new hl,by rw[bI<|dy Gx,bp],(λi v e=>nomatch e),bp,cg,by rw[mP];rfl,eI _⟩ (λj aS H' _⟨x5,x6,aW,d6,zs,e,sm,q⟩=>sm.seq rV) (λj x aS H' hx I=>?_) λaS H' I=>?_⟩
 ·obtain⟨x5,x6,aW,d6,zs,rfl,sm,hd',mok,hl',aa,ez,hkl⟩:=I
  obtain⟨sp,iD,rsp⟩:=a3.get hx;have hj:j<ss.length:=by
   rcases Fj j ss.length with z|z
   ·exact z
   ·rw[BZ z] at iD;cases iD
  have yF:=jW iD;obtain⟨ED,EE,so3⟩:=j8 sp yF;obtain⟨a,dx,v2,v3,v4,v5,v6,rfl,ha0,_⟩:=id rsp;have ha:=sm _ _ ha0;refine⟨_,J,a,CS,dx,_,_,J,ha,TS.cl,TS.na _ dk,by unfold oR;sleep 1,_,J,a,CS,dx,_,_,J,ha,TS.cl,TS.na _ dk,by unfold oR;sleep 1,by show 2<=bH;decide,λT hT=>⟨T,J,⟨_,cD.of bp⟩,?_⟩⟩;have sT:az H' (aC H' T<|.tup [.int (sp.one:ae),.int (sp.other:ae)]):=az.new hT;refine ZF (K:=K) (xs:=[.int (sp.one:ae),.int (sp.other:ae)]) (λj2 Jh kQ=>∃(x6:aw V)(aW:ag<|gV×V),Jh=[L w1,L<|.ref p2,L<|.ref p3,L<|.ref d,L<|.ref l,L<|.ref a,x6]/\az H kQ/\kQ T=L (.tup [.int (sp.one:ae),.int (sp.other:ae)])/\kQ d=L (.dK aW)/\B3 K CM k bs kQ aW/\kQ l=L (.lst d6)/\cf (jG K CN CP k kQ) d6 zs/\(1<=j2->(fw aW<|eP (sp.one:ae)).isSome=ao)/\(2<=j2->(fw aW<|eP (sp.other:ae)).isSome=ao)/\aW.length<=2*j+j2)
   ⟨x6,aW,J,sm.trans sT,bp,sT _ _ hd',mok.same sT.i,sT _ _ hl',aa.imp λv x=>kG.m _ _ _ _ sT,λz=>absurd z dc,λz=>absurd z dc,om⟩
   (λj2 Jh kQ _⟨x6,aW,e,sm,hT,q⟩=>cD.of hT) (λj2 xi Jh kQ hxi I2=>?_) λJh kQ I2=>?_
  ·obtain⟨x6,aW,rfl,dN,wt,pC,mok2,hX,aa2,z1,z2,hkl2⟩:=I2
   obtain⟨n,rfl,hn,hnn⟩:∃n:af,xi= .int (n:ae)/\n<bs.length/\((j2=0/\n=sp.one)\/(j2=1/\n=sp.other)):=by
    match j2,hxi with
    |0,e=>cases e;exact⟨_,J,ED,.inl ⟨J,J⟩⟩
    |1,e=>cases e;exact⟨_,J,EE,.inr ⟨J,J⟩⟩
   have hb:bs[n]? =L (bs.getD n default):=by simp[mM,hn]
   refine⟨_,J,_,J,d,_,J,oZ.k (k:=eP (n:ae)) pC,_,J,?_⟩;have dZ:∀(DA:ag<|gV×V)(H5:Hp),(∀m:af,(fw aW<|eP (m:ae)).isSome=ao->(fw DA<|eP (m:ae)).isSome=ao)->(fw DA<|eP (n:ae)).isSome=ao->(1<=j2+1->(fw DA<|eP (sp.one:ae)).isSome=ao)/\(2<=j2+1->(fw DA<|eP (sp.other:ae)).isSome=ao):=λDA H5 h1 h2=>by
    rcases hnn with⟨e1,e2⟩|⟨e1,e2⟩
    ·subst e1 e2
     exact⟨λ_=>h2,λz=>absurd z dc⟩
    ·subst e1 e2
     exact⟨λ_=>h1 _ (z1 dc),λ_=>h2⟩
   cases hv:fw aW (eP (n:ae)) with
   |none=>
    show if ao=ao then _ else _
    rw[aH J];have nb:NT M E (ck K CB k) (L<|bs.getD n default) [L w1,L<|.ref p2,L<|.ref p3,L<|.ref d,L<|.ref l,L<|.ref a,L<|.int (n:ae)] kQ (bY (lL K) (au 1)<|au 6):=qB cu (aj J (cw cu)<|cw cu _ _ _ _ dN h2) (aj J ib J) hb;have nm:=yX (D:=CM) (R:=jZ K CM k) (t:=L ((),bs.getD n default,())) (f:=λx=>ic k x.2.1)<|aF aM (aj (i:=0) J aM<|aM.up dN h1)<|aF cu nb bQ;refine nm kQ _ sr ⟨λH4 v m s4 em q=>?_,λH4 s4 em=>kk.no H4 (dN.trans s4)<|Bw.Bu (a:=sp) ?_ yF⟩
    ·have em:ic k (bs.getD n default)=L m:=em
     have QZ:=s4 _ _ pC
     refine⟨_,J,_,J,d,_,J,zK.k (k:=eP (n:ae)) QZ (vJ hkl2 (by have:j2<=1:=by omega
                                                              show 2*j+j2<2^24
                                                              omega)),?_⟩
     have si:fJ H4<|aC H4 d (.dK<|iU aW (eP (n:ae)) v):=fJ.aC (by rw[QZ];trivial);have td:T≠d:=eF wt pC (by intro z;cases z);have ldd:l≠d:=Gx;refine⟨L<|.int (n:ae),iU aW (eP (n:ae)) v,J,λb o e=>?_,by rw[bI td];exact s4 _ _ wt,bp,λi u e=>?_,by rw[bI ldd];exact s4 _ _ hX,aa2.imp λv x r=>kG _ _ _ _ (s4.i.trans si) r,(dZ _ H4 (λm hm=>?_) ?_).1,(dZ _ H4 (λm hm=>?_) ?_).2,?_⟩
     ·rw[bI<|dv e hd]
      exact s4 _ _<|dN _ _ e
     ·rw[BH] at e
      by_cases c:(eP (i:ae):gV)=eP (n:ae)
      ·rw[aH c] at e
       cases e
       have c:i=n:=by cases c;rfl
       subst c;exact⟨m,em,mn.up si q⟩
      ·rw[ay c] at e
       obtain⟨m',e1,r⟩:=mok2 i u e;exact⟨m',e1,mn _ _ _ _ (s4.i.trans si) r⟩
     ·rw[BH];split
      ·rfl
      ·exact hm
     ·rw[BH,aH J];rfl
     ·rw[BH];split
      ·rfl
      ·exact hm
     ·rw[BH,aH J];rfl
     ·rw[putK_new v hv,iL]
      show aW.length+1<=_;omega
    ·have em:ic k (bs.getD n default)=ah:=em
     show(ic k<|bs.getD sp.one default).bind _=ah;rcases hnn with⟨_,e2⟩|⟨_,e2⟩
     ·rw[<-e2,em];rfl
     ·cases ic k (bs.getD sp.one default) with
      |none=>rfl
      |some m1=>
       show(ic k<|bs.getD sp.other default).bind _=ah;rw[<-e2,em];rfl
   |some v0=>
    show if aK=ao then _ else _
    rw[ay dc];have hs:(fw aW<|eP (n:ae)).isSome=ao:=by rw[hv];rfl
    exact⟨L<|.int (n:ae),aW,J,dN,wt,pC,mok2,hX,aa2,(dZ aW kQ (λ_ h=>h) hs).1,(dZ aW kQ (λ_ h=>h) hs).2,om⟩
  ·obtain⟨x6,aW,rfl,dN,wt,pC,mok2,hX,aa2,z1,z2,hkl2⟩:=I2
   have z1:=z1 (by show 1<=2;decide);have z2:=z2 (by show 2<=2;decide);obtain⟨u1,e1⟩:=Option.isSome_iff_exists.mp z1;obtain⟨u2,e2⟩:=Option.isSome_iff_exists.mp z2;obtain⟨m1,em1,rm1⟩:=mok2 _ _ e1;obtain⟨m2,em2,rm2⟩:=mok2 _ _ e2;refine⟨_,J,.inl ⟨J,_,SqL.of hX⟩,?_⟩;have rsp2:=eJ.m.up dN rsp;have rQ:=dN _ _ ha0;have g1:NT M E (jZ K CM k) (L m1) [L w1,L<|.ref p2,L<|.ref p3,L<|.ref d,L<|.ref l,L<|.ref a,x6] kQ (EM (au 3)<|cZ K (au 5) "first"):=λU Q s k=>⟨_,J,_,J,a,CS,dx,_,_,J,s _ _ rQ,TS.cl,TS.na _ dk,by unfold oR;sleep 1,d,u1,J,by rw[<-e1];exact oZ.k (k:=eP (sp.one:ae))<|s _ _ pC,k.ok _ _ _ sr J<|mn.m.up s rm1⟩;have g2:NT M E (jZ K CM k) (L m2) [L w1,L<|.ref p2,L<|.ref p3,L<|.ref d,L<|.ref l,L<|.ref a,x6] kQ (EM (au 3)<|cZ K (au 5) "second"):=λU Q s k=>⟨_,J,_,J,a,CS,dx,_,_,J,s _ _ rQ,TS.cl,TS.na _ dk,by unfold oR;sleep 1,d,u2,J,by rw[<-e2];exact oZ.k (k:=eP (sp.other:ae))<|s _ _ pC,k.ok _ _ _ sr J<|mn.m.up s rm2⟩;have ns:=yX (D:=CN) (R:=jG K CN CP k) (t:=L ((),sp,m1,m2,())) (f:=λx=>qd k x.2.1 x.2.2.1 x.2.2.2.1) (aF aM (aj (i:=0) J aM<|aM.up dN h1)<|aF eJ.m (aj (i:=5) J eJ.m rsp2) (aF mn.m g1<|aF mn.m g2 bQ));have es:jR k {bodies:=bs} sp=qd k sp m1 m2:=by
    show(ic k<|bs.getD sp.one default).bind (λm1=>(ic k<|bs.getD sp.other default).bind λm2=>qd k sp m1 m2)=_;rw[em1,em2];rfl
   refine ns kQ _ sr ⟨λH6 v sn s6 en q=>?_,λH6 s6 en=>kk.no H6 (dN.trans s6)<|Bw.Bu (a:=sp) (es.trans en) yF⟩;have Q9:=s6 _ _ hX;have dG:d6.length<=8192:=by rw[aa2.bG,Bw.iI ez,km];omega
   refine⟨l,d6,v,J,J,Q9,vJ dG dc,?_⟩;have si:fJ H6<|aC H6 l (.lst<|d6++[v]):=fJ.aC (by rw[Q9];trivial);refine⟨L<|.ref a,x6,aW,d6++[v],zs++[sn],J,λb o e=>?_,by rw[bI<|dy Gx];exact s6 _ _ pC,mok2.same<|s6.i.trans si,bp,(aa2.imp λv x r=>kG _ _ _ _ (s6.i.trans si) r).snoc<|kG.up si q,?_,om⟩
   ·rw[bI<|dv e Dj]
    exact s6 _ _<|dN _ _ e
   ·rw[Bv iD,ez,es,show qd k sp m1 m2=L sn from en]
    rfl
 ·obtain⟨x5,x6,aW,d6,zs,rfl,sm,hd',mok,hl',aa,ez,_⟩:=I
  rw[a3.bG,lS] at ez;exact⟨_,J,kk.ok H' _ zs sm ez ⟨l,d6,J,hl',aa⟩⟩
end
end BW
namespace BW
open PySem PySem.Spec PyProof.Rows L2
open Bw (bS cQ bf cn qX rh iu ic f_ qd jR lK kg ba lF)
def gA(a:ak)(H H':Hp):Prop:=∀c o,H c=L o->c≠a->H' c=L o
theorem gA.base(s:gA a H H')(sb:az Hb H)(hn:Hb a=ah):az Hb H':=λc o e=>s c o (sb _ _ e)<|dv e hn
theorem gA.trans(s:gA a H U)(t:gA a U H2):gA a H H2:=λc o e n=>t c o (s c o e n) n
theorem _root_.L2.az.x(s:az H H'):gA a H H':=λc o e _=>s _ _ e
section
variable{f g:ax}{v x:V}{r:ag (ax×V)}
theorem putF_nil:aY f v []=[(f,v)]:=J
theorem putF_eq:aY f v ((f,x)::r)=(f,v)::r:=aH J
theorem putF_ne(h:¬g=f):aY f v ((g,x)::r)=(g,x)::aY f v r:=ay h
end
section
variable{v0 v1 v2 v3 v4 v5 v6 v:V}
theorem tP:fL v0 v1 v2 v3 v4 v5 v6=([("by_weight",v0),("by_moment",v1),("place",v2),("turn",v3),("momentum",v4),("spin",v5),("force",v6)]:ag<|ax×V):=by unfold fL;sleep 2
theorem put_mo:aY "momentum" v (fL v0 v1 v2 v3 v4 v5 v6)=fL v0 v1 v2 v3 v v5 v6:=by rw[tP,tP];sleep 2
theorem put_sp:aY "spin" v (fL v0 v1 v2 v3 v4 v5 v6)=fL v0 v1 v2 v3 v4 v v6:=by rw[tP,tP];sleep 2
theorem put_pl:aY "place" v (fL v0 v1 v2 v3 v4 v5 v6)=fL v0 v1 v v3 v4 v5 v6:=by rw[tP,tP];sleep 2
theorem put_tu:aY "turn" v (fL v0 v1 v2 v3 v4 v5 v6)=fL v0 v1 v2 v v4 v5 v6:=by rw[tP,tP];sleep 2
theorem FP:(fL v0 v1 v2 v3 v4 v5 v6).length<1000:=by rw[tP];show 7<1000;decide
end
section
variable{K:aq}{M CB:ak}{k:aB}{mg:ax->aw aE}{E:XK}{σ:L2.St}{Hc:Hp}{te:TE}{a:ak}{b:ff}{D:Ends}{i:af}{rb:aw dP}{rq:aw tG}
theorem IM(TB:iM K mg CB)(h:NT M E (R3 K k) rb σ Hc te)(hv:σ[i]? =L (L<|.ref a))(hb:ck K CB k Hc (.ref a) b)(no:∀U,az Hc U->rb=ah->E (.ref M) ah U)
 (ok:∀y H2,rb=L y->gA a Hc H2->ck K CB k H2 (.ref a) {b with momentum:=y}->D.nx σ H2):xl K (au i) te "momentum" D σ Hc:=by
 refine h Hc _ sr ⟨λU v y s e q=>?_,no⟩;obtain⟨a',dx,v0,v1,v2,v3,v4,v5,v6,ea,ha,h0,h1,h2,h3,h4,h5,h6⟩:=cu.up s hb
 cases ea
 have t:cp U<|aC U a (.ins CB dx<|fL v0 v1 v2 v3 v v5 v6):=cp.aC (by rw[ha];trivial);refine⟨_,hv,a,CB,dx,_,J,ha,TB.cl,TB.G8,FP,?_⟩;rw[put_mo];exact ok y _ e (λc o e1 n=>by rw[bI n];exact s _ _ e1) ⟨a,dx,v0,v1,v2,v3,v,v5,v6,J,bp,du.up t h0,cO.up t h1,cO.up t h2,qt.up t h3,cO.up t q,cO.up t h5,cO.up t h6⟩
theorem VJ(TB:iM K mg CB)(h:NT M E (R3 K k) rb σ Hc te)(hv:σ[i]? =L (L<|.ref a))(hb:ck K CB k Hc (.ref a) b)(no:∀U,az Hc U->rb=ah->E (.ref M) ah U)
 (ok:∀y H2,rb=L y->gA a Hc H2->ck K CB k H2 (.ref a) {b with spin:=y}->D.nx σ H2):xl K (au i) te "spin" D σ Hc:=by
 refine h Hc _ sr ⟨λU v y s e q=>?_,no⟩;obtain⟨a',dx,v0,v1,v2,v3,v4,v5,v6,ea,ha,h0,h1,h2,h3,h4,h5,h6⟩:=cu.up s hb
 cases ea
 have t:cp U<|aC U a (.ins CB dx<|fL v0 v1 v2 v3 v4 v v6):=cp.aC (by rw[ha];trivial);refine⟨_,hv,a,CB,dx,_,J,ha,TB.cl,TB.ns,FP,?_⟩;rw[put_sp];exact ok y _ e (λc o e1 n=>by rw[bI n];exact s _ _ e1) ⟨a,dx,v0,v1,v2,v3,v4,v,v6,J,bp,du.up t h0,cO.up t h1,cO.up t h2,qt.up t h3,cO.up t h4,cO.up t q,cO.up t h6⟩
theorem VI(TB:iM K mg CB)(h:NT M E (R3 K k) rb σ Hc te)(hv:σ[i]? =L (L<|.ref a))(hb:ck K CB k Hc (.ref a) b)(no:∀U,az Hc U->rb=ah->E (.ref M) ah U)
 (ok:∀y H2,rb=L y->gA a Hc H2->ck K CB k H2 (.ref a) {b with at_:=y}->D.nx σ H2):xl K (au i) te "place" D σ Hc:=by
 refine h Hc _ sr ⟨λU v y s e q=>?_,no⟩;obtain⟨a',dx,v0,v1,v2,v3,v4,v5,v6,ea,ha,h0,h1,h2,h3,h4,h5,h6⟩:=cu.up s hb
 cases ea
 have t:cp U<|aC U a (.ins CB dx<|fL v0 v1 v v3 v4 v5 v6):=cp.aC (by rw[ha];trivial);refine⟨_,hv,a,CB,dx,_,J,ha,TB.cl,TB.np,FP,?_⟩;rw[put_pl];exact ok y _ e (λc o e1 n=>by rw[bI n];exact s _ _ e1) ⟨a,dx,v0,v1,v,v3,v4,v5,v6,J,bp,du.up t h0,cO.up t h1,cO.up t q,qt.up t h3,cO.up t h4,cO.up t h5,cO.up t h6⟩
theorem VL(TB:iM K mg CB)(h:NT M E (R4 K k) rq σ Hc te)(hv:σ[i]? =L (L<|.ref a))(hb:ck K CB k Hc (.ref a) b)(no:∀U,az Hc U->rq=ah->E (.ref M) ah U)
 (ok:∀y H2,rq=L y->gA a Hc H2->ck K CB k H2 (.ref a) {b with turn:=y}->D.nx σ H2):xl K (au i) te "turn" D σ Hc:=by
 refine h Hc _ sr ⟨λU v y s e q=>?_,no⟩;obtain⟨a',dx,v0,v1,v2,v3,v4,v5,v6,ea,ha,h0,h1,h2,h3,h4,h5,h6⟩:=cu.up s hb
 cases ea
 have t:cp U<|aC U a (.ins CB dx<|fL v0 v1 v2 v v4 v5 v6):=cp.aC (by rw[ha];trivial);refine⟨_,hv,a,CB,dx,_,J,ha,TB.cl,TB.nt,FP,?_⟩;rw[put_tu];exact ok y _ e (λc o e1 n=>by rw[bI n];exact s _ _ e1) ⟨a,dx,v0,v1,v2,v,v4,v5,v6,J,bp,du.up t h0,cO.up t h1,cO.up t h2,qt.up t q,cO.up t h4,cO.up t h5,cO.up t h6⟩
theorem CJ(s:gA a H H')(ha:ck K CB k H (.ref a) b)(n:c≠a)(h:ck K CB k H (.ref c) d):ck K CB k H' (.ref c) d:=by
 obtain⟨a',dx,v0,v1,v2,v3,v4,v5,v6,ea,hc,h0,h1,h2,h3,h4,h5,h6⟩:=h
 cases ea
 obtain⟨a',pB,u0,u1,u2,u3,u4,u5,u6,ea,hA,_⟩:=ha
 cases ea
 have t:cp H H':=⟨λz xs e=>s _ _ e<|eF e hA (by intro q;cases q),λz o u e=>s _ _ e<|eF e hA (by intro q;cases q)⟩;exact⟨c,dx,v0,v1,v2,v3,v4,v5,v6,J,s _ _ hc n,du.up t h0,cO.up t h1,cO.up t h2,qt.up t h3,cO.up t h4,cO.up t h5,cO.up t h6⟩
end
section
variable{P:cN}{w:World}{K:aq}{mg:ax->aw aE}{base:b9}{M CK CB CU:ak}
def Ve(K:aq)(M CK CB CU:ak)(k:aB):Sp:=λvs H Q E=>∃(Hb:Hp)(wk wp wd:V)(a c:ak)(p:z9)(A B:ff)(dt:af),vs=[wk,wp,.ref a,.ref c,wd]/\az Hb H/\Hb a=ah/\Hb c=ah/\a≠c/\RK CK k Hb wk ()/\tF K CU k Hb wp p/\RC K k Hb wd dt/\ck K CB k H (.ref a) A/\ck K CB k H (.ref c) B/\(∀H' A' B',(∀x o,H x=L o->x≠a->x≠c->H' x=L o)->Ab k dt p.from_ p.push A=L A'->Cq k dt p.to p.push B=L B'->ck K CB k H' (.ref a) A'->ck K CB k H' (.ref c) B'->Q .cE H')/\
 ∀H',az Hb H'->(Ab k dt p.from_ p.push A=ah\/Cq k dt p.to p.push B=ah)->E (.ref M) ah H'
theorem scDP:bE ["kind","push","first","second","dt"] ["kind","push","first","second","dt"] (bw<|aN 63):=fs
theorem ok_doPush{f:ak}{fd:cX}(F:bz K "do_push" "do_push" (aN 63) f fd)(B:BM P w K mg base M CK CB)(TU:Tx K mg CU "Push" zG)(k:aB):aD P w K mg base (aO P w M) 20 f fd ["kind","push","first","second","dt"]<|Ve K M CK CB CU k:=by
 have m1:=B.V.against;have m2:=B.V.along;have m3:=B.V.moment;have TB:=B.TB;refine F.pQ scDP (λvs H Q E h=>?_) λcG A bC s H vs Q E hr h=>?_
 ·obtain⟨Hb,wk,wp,wd,a,c,p,A,B,dt,rfl,_⟩:=h
  rfl
 ·obtain⟨Hb,wk,wp,wd,a,c,p,A,B,dt,rfl,sb,ha,hc,AE,hk,hp,hd,hA,hB,kk,kn⟩:=h
  refine⟨_,(aG (dH (O 2) (m1.c k hr aA<|dz (O 0) (bF (bh<|O 2) (O 4) (bh<|O 1))) J) (aG (dH (O 2) (m1.c k hr aA (dz (O 0) (bF (bh<|O 2) (O 4)<|m3.c k hr aA (bF (O 0) (bh<|O 1) (bh<|O 1))))) J) (aG (dH (O 3) (m2.c k hr aA<|dz (O 0) (bF (bh<|O 3) (O 4) (bh<|O 1))) J) (aR<|dH (O 3) (m2.c k hr aA (dz (O 0) (bF (bh<|O 3) (O 4)<|m3.c k hr aA (bF (O 0) (bh<|O 1) (bh<|O 1))))) J)))),?_⟩;have v0:∀{Hc:Hp},az Hb Hc->NT M E (RK CK k) (L ()) [L wk,L wp,L<|.ref a,L<|.ref c,L wd] Hc (au 0):=λs=>aj J aM<|aM.up s hk;have v1:∀{Hc:Hp},az Hb Hc->NT M E (tF K CU k) (L p) [L wk,L wp,L<|.ref a,L<|.ref c,L wd] Hc (au 1):=λs=>aj J LL.m<|LL.m.up s hp;have v4:∀{Hc:Hp},az Hb Hc->NT M E (RC K k) (L dt) [L wk,L wp,L<|.ref a,L<|.ref c,L wd] Hc (au 4):=λs=>aj J aI<|aI.up s hd;have v2:∀{Hc:Hp}{A:ff},ck K CB k Hc (.ref a) A->NT M E (ck K CB k) (L A) [L wk,L wp,L<|.ref a,L<|.ref c,L wd] Hc (au 2):=λh=>aj J cu h;have v3:∀{Hc:Hp}{A:ff},ck K CB k Hc (.ref c) A->NT M E (ck K CB k) (L A) [L wk,L wp,L<|.ref a,L<|.ref c,L wd] Hc (au 3):=λh=>aj J cu h;refine IM TB (yW (r:=L A.momentum) (c:=L dt) (s:=L p.push) (v0 sb) (uz TB<|v2 hA) (v4 sb) (Hv TU<|v1 sb)) J hA (λU s1 e=>kn U (sb.trans s1)<|.inl ?_) λy1 U e1 x1 tZ=>?_
  ·have e:xW k dt p.push A.momentum=ah:=e
   unfold Ab;rw[e];rfl
  have e1:xW k dt p.push A.momentum=L y1:=e1;have oO:=x1.base sb ha;have K2:=CJ x1 hA (dy AE) hB;have n1:=kJ (g:=rD k) (r:=L p.from_) (s:=L p.push) (v0 oO) (nt_ua TU<|v1 oO) (Hv TU<|v1 oO);refine VJ TB (yW (r:=L A.spin) (c:=L dt) (s:=rD k p.from_ p.push) (v0 oO) (A9 (b:={A with momentum:=y1}) TB<|v2 tZ) (v4 oO) n1) J tZ (λH2 s2 e=>kn H2 (oO.trans s2)<|.inl ?_) λy2 H2 e2 x2 AD=>?_
  ·unfold Ab
   rw[e1]
   cases em:rD k p.from_ p.push with
   |none=>rfl
   |some t=>rw[em] at e;show(xW k dt t A.spin).map _=ah;rw[show xW k dt t A.spin=ah from e];rfl
  have eA:Ab k dt p.from_ p.push A=L {A with momentum:=y1,spin:=y2}:=by
   unfold Ab;rw[e1]
   cases em:rD k p.from_ p.push with
   |none=>rw[em] at e2;cases e2
   |some t=>rw[em] at e2;show(xW k dt t A.spin).map _=_;rw[show xW k dt t A.spin=L y2 from e2];rfl
  have pY:=x2.base oO ha;have Dc:=CJ x2 tZ (dy AE) K2;refine IM TB (yW (r:=L B.momentum) (c:=L dt) (s:=L p.push) (v0 pY) (uz TB<|v3 Dc) (v4 pY) (Hv TU<|v1 pY)) J Dc (λH3 s3 e=>kn H3 (pY.trans s3)<|.inr ?_) λy3 H3 e3 x3 K3=>?_
  ·have e:iY k dt p.push B.momentum=ah:=e
   unfold Cq;rw[e];rfl
  have e3:iY k dt p.push B.momentum=L y3:=e3;have pZ:=x3.base pY hc;have Gn:=CJ x3 Dc AE AD;have n3:=kJ (g:=rD k) (r:=L p.to) (s:=L p.push) (v0 pZ) (nt_ub TU<|v1 pZ) (Hv TU<|v1 pZ);refine VJ TB (yW (r:=L B.spin) (c:=L dt) (s:=rD k p.to p.push) (v0 pZ) (A9 (b:={B with momentum:=y3}) TB<|v3 K3) (v4 pZ) n3) J K3 (λH4 s4 e=>kn H4 (pZ.trans s4)<|.inr ?_) λy4 H4 e4 x4 Gp=>?_
  ·unfold Cq
   rw[e3]
   cases em:rD k p.to p.push with
   |none=>rfl
   |some t=>rw[em] at e;show(iY k dt t B.spin).map _=ah;rw[show iY k dt t B.spin=ah from e];rfl
  have eB:Cq k dt p.to p.push B=L {B with momentum:=y3,spin:=y4}:=by
   unfold Cq;rw[e3]
   cases em:rD k p.to p.push with
   |none=>rw[em] at e4;cases e4
   |some t=>rw[em] at e4;show(iY k dt t B.spin).map _=_;rw[show iY k dt t B.spin=L y4 from e4];rfl
  exact kk H4 _ _ (λx o e n1 n2=>x4 x o (x3 x o (x2 x o (x1 x o e n1) n1) n2) n2) eA eB (CJ x4 K3 AE Gn) Gp
def Vl(K:aq)(M CK CB:ak)(k:aB):Sp:=λvs H Q E=>∃(Hb:Hp)(wk wd:V)(a:ak)(A:ff)(dt:af),vs=[wk,.ref a,wd]/\az Hb H/\Hb a=ah/\RK CK k Hb wk ()/\RC K k Hb wd dt/\ck K CB k H (.ref a) A/\(∀H' A',gA a H H'->lF k dt A=L A'->ck K CB k H' (.ref a) A'->Q .cE H')/\ ∀H',az Hb H'->lF k dt A=ah->E (.ref M) ah H'
theorem UD:bE ["kind","body","dt","g"] ["kind","body","dt"] (bw<|aN 64):=fs
theorem ok_move{f:ak}{fd:cX}(F:bz K "move" "move" (aN 64) f fd)(B:BM P w K mg base M CK CB)(hH:∃a,mg "HALF"=L (.ref a)/\ ∀H,cD K H a [.int 1,.int (-1)])(hO:∃a,mg "ONE"=L (.ref a)/\ ∀H,cD K H a [.int 1,.int 0])(k:aB):aD P w K mg base (aO P w M) 20 f fd ["kind","body","dt"]<|Vl K M CK CB k:=by
 obtain⟨f7,fd7,M7,b7,O7⟩:=B.V.aJ.mul;obtain⟨kC,hHm,hHq⟩:=hH;obtain⟨K7,hOm,hOq⟩:=hO;have TB:=B.TB;refine F.pQ UD (λvs H Q E h=>?_) λcG A bC s H vs Q E hr h=>?_
 ·obtain⟨Hb,wk,wd,a,A,dt,rfl,_⟩:=h
  rfl
 ·obtain⟨Hb,wk,wd,a,A,dt,rfl,sb,ha,hk,hd,hA,kk,kn⟩:=h
  refine⟨_,(aG (dH (O 1) (B.V.along.c k hr aA<|dz (O 0) (bF (bh<|O 1) (O 2) (bh<|O 1))) J) (aG (dH (O 1) (B.V.along.c k hr aA (dz (O 0) (bF (bh<|O 1) (O 2)<|B.hf.c k hr aA (bJ (O 0)<|O 1)))) J) (aG (bA 3 UD.nd (B.V.M9.c k hr aA (bF (O 0) (bV (O 0) B.V.aJ.T.cl M7 (O7 k) (hr.aV dc) b7 .nil aA (bJ (O 2)<|dF J hHm (v:=.ref kC) J))<|B.ht.c k hr aA (bJ (O 0)<|O 1)))) (aR<|dH (O 1) (B.mo.c k hr aA<|bJ (O 0) (B.tp.c k hr aA (bF (O 0) (bL xa (fO (bu<|dF J hOm (v:=.ref K7) J))<|O 3) (bh<|O 1)))) J)))),?_⟩;have v0:∀{σ:L2.St}{Hc:Hp},σ[0]? =L (L wk)->az Hb Hc->NT M E (RK CK k) (L ()) σ Hc (au 0):=λe s=>aj e aM<|aM.up s hk;have v2:∀{σ:L2.St}{Hc:Hp},σ[2]? =L (L wd)->az Hb Hc->NT M E (RC K k) (L dt) σ Hc (au 2):=λe s=>aj e aI<|aI.up s hd;have v1:∀{σ:L2.St}{Hc:Hp}{A:ff},σ[1]? =L (L<|.ref a)->ck K CB k Hc (.ref a) A->NT M E (ck K CB k) (L A) σ Hc (au 1):=λe h=>aj e cu h;refine IM (σ:=[L wk,L<|.ref a,L wd,ah]) TB (yW (g:=λp c d=>iY k c d p) (r:=L A.momentum) (c:=L dt) (s:=L A.force) (v0 J sb) (uz TB<|v1 J hA) (v2 J sb) (SK TB<|v1 J hA)) J hA (λU s1 e=>kn U (sb.trans s1) ?_) λy1 U e1 x1 tZ=>?_
  ·have e:iY k dt A.force A.momentum=ah:=e
   unfold lF;rw[e];rfl
  have e1:iY k dt A.force A.momentum=L y1:=e1;have oO:=x1.base sb ha;have n2:=cP (R:=R3 K k) (σ:=[L wk,L<|.ref a,L wd,ah]) (t:=L ((),{A with momentum:=y1},())) (f:=λx=>pk k x.2.1) (aF aM (v0 J oO)<|aF cu (v1 J tZ) bQ);refine VI TB (yW (g:=λp c d=>iY k c d p) (r:=L A.at_) (c:=L dt) (s:=pk k {A with momentum:=y1}) (v0 J oO) (yU (b:={A with momentum:=y1}) TB<|v1 J tZ) (v2 J oO) n2) J tZ (λH2 s2 e=>kn H2 (oO.trans s2) ?_) λy2 H2 e2 x2 AD=>?_
  ·have e:(pk k {A with momentum:=y1}).bind (λb=>iY k dt b A.at_)=ah:=e
   unfold lF;rw[e1];show((pk k {A with momentum:=y1}).bind λv=>iY k dt v A.at_).bind _=ah;rw[e];rfl
  have e2:(pk k {A with momentum:=y1}).bind (λb=>iY k dt b A.at_)=L y2:=e2;have pY:=x2.base oO ha;have pE:=hk.1;have nh:NT M E (RN K k) (L<|lr k) [L wk,L<|.ref a,L wd,ah] H2 (tC<|.ref kC):=iH eK ⟨(1,-1),⟨kC,J,hHq H2⟩,Bw.HJ pE⟩;have nm:=pM (g:=ir k) (r:=L dt) (s:=L<|lr k) uw (v0 J pY) ((v2 J pY).cW λ_ _ _=>dS pE) nh;have L0:=cP (R:=R3 K k) (σ:=[L wk,L<|.ref a,L wd,ah]) (t:=L ((),{A with momentum:=y1,at_:=y2},())) (f:=λx=>pw k x.2.1) (aF aM (v0 J pY)<|aF cu (v1 J AD) bQ);have ng:=SO (g:=vV k) (r:=ir k dt<|lr k) (s:=pw k A) (v0 J pY) nm L0
  have kn3:∀H',az Hb H'->((ir k dt<|lr k).bind λh=>(pw k A).bind λo=>vV k h o)=ah->E (.ref M) ah H':=λH' s e=>kn H' s (by
   unfold lF;rw[e1];show((pk k {A with momentum:=y1}).bind λv=>iY k dt v A.at_).bind _=ah;rw[e2];show zW _ _=ah
   rw[e];rfl)
  refine ng H2 _ sr ⟨λH3 ug g s3 eg q3=>?_,λH3 s3 e=>kn3 H3 (pY.trans s3) e⟩;have pZ:=pY.trans s3;have Gn:=cu.up s3 AD;have nO:NT M E (RT K<|RN K k) (L [Aa k]) [L wk,L<|.ref a,L wd,L ug] H3 (kN<|aU (tC<|.ref K7) b8):=NT.eq (y' (f:=λx=>L [x.1]) (aF eK (iH eK ⟨(1,0),⟨K7,J,hOq H3⟩,Bw.rep_one pE⟩) bQ) (λ_ _ _⟨v,r,e,_,e2⟩=>by subst e e2;show 1<=bH;decide) (λ_ _ y p⟨v,r,e,q1,e2⟩hp=>by subst e e2;exact⟨_,J,p,_,J,cD.of hp,q1,cg⟩)<|mq eK yR) J
  have nG:NT M E (RT K<|RN K k) (L g.list) [L wk,L<|.ref a,L wd,L ug] H3<|au 3:=(aj (R:=R3 K k) (y:=g) J bR q3).conv λ_ _ h=>by
   obtain⟨p,vs,e,hp,ha⟩:=pW h;exact⟨p,vs,e,hp,ha.imp λv x=>dS pE⟩
  have n4:NT M E (xQ K k) (L ⟨Aa k,g.x,g.y,g.z⟩) [L wk,L<|.ref a,L wd,L ug] H3 _:=(wX eK nO nG (by simp) (by simp[oj]) (by show 1+3<=bH;decide)).conv λH v h=>by
   obtain⟨p,vs,rfl,hp,ha⟩:=h;obtain⟨a,b,c,d,rfl,h1,h2,h3,h4⟩:=Lz ha;exact⟨p,a,b,c,d,J,hp,h1,h2,h3,h4⟩
  have np:NT M E (R4 K k) (Ct k ⟨Aa k,g.x,g.y,g.z⟩ A.turn) [L wk,L<|.ref a,L wd,L ug] H3 _:=cP (t:=L ((),⟨Aa k,g.x,g.y,g.z⟩,A.turn,())) (f:=λx=>Ct k x.2.1 x.2.2.1)<|aF aM (v0 J pZ) (aF yO n4<|aF gu (wW (b:={A with momentum:=y1,at_:=y2}) TB<|v1 J Gn) bQ);have nu:=cP (R:=R4 K k) (f:=λx=>yc k x.2.1) (aF aM (v0 J pZ)<|aF gu np bQ);have nu:=nu.eq (by show _=(Ct k ⟨Aa k,g.x,g.y,g.z⟩ A.turn).bind (yc k);cases Ct k ⟨Aa k,g.x,g.y,g.z⟩ A.turn<;>rfl);have em:lF k dt A=((Ct k ⟨Aa k,g.x,g.y,g.z⟩ A.turn).bind<|yc k).map λq=>{A with momentum:=y1,at_:=y2,turn:=q}:=by
   unfold lF;rw[e1];show((pk k {A with momentum:=y1}).bind λv=>iY k dt v A.at_).bind _=_;rw[e2];show zW _ _=_;rw[eg];rfl
  refine VL TB nu J Gn (λH4 s4 e=>kn H4 (pZ.trans s4) (by rw[em,e];rfl)) λy4 H4 e4 x4 ZV=>?_;exact kk H4 _ (((x1.trans x2).trans s3.x).trans x4) (by rw[em,e4];rfl) ZV
end
end BW
namespace BW
open PySem PySem.Spec PyProof.Rows L2
open Bw (bS cQ bf cn ba)
section
variable{K:aq}{M:ak}{E:XK}{σ:L2.St}{H:Hp}{t1 t2 te:TE}{k:aB}
theorem DZ{R:bO α}{xs:ag α}(m:cV R)(h1:NT M E (RT K R) (L xs) σ H t1)(h2:NT M E fC (L n) σ H t2)(hx:xs[n]? =L x):NT M E R (L x) σ H<|bY (dI K) t1 t2:=λU Q s k=>by
 refine(h1.at_ s).go λv H2 s2 q=>(h2.at_<|s.trans s2).go λu H3 s3 q3=>?_;obtain⟨p,vs,rfl,hp,ha⟩:=yP m _ _ _ _ s3 q;subst q3;obtain⟨v,hv,r⟩:=ha.rO hx;exact⟨p,vs,n,v,J,J,hp,tO hv,k.ok _ _ _ (s2.trans s3) J r⟩
theorem Hh(h1:NT M E fC (L a) σ H t1)(h2:NT M E fC (L b) σ H t2):NT M E fC (L<|a+b) σ H<|bY (gy λi j=>.int<|i+j) t1 t2:=λU Q s k=>by
 refine(h1.at_ s).go λv H2 s2 q=>(h2.at_<|s.trans s2).go λu H3 s3 q3=>?_;exact⟨a,b,q,q3,k.ok _ _ _ (s2.trans s3) J<|by congr 1⟩
theorem nt_barec{a:af}(fa:cQ k a)(h:NT M E (RC K k) (L a) σ H te):NT M E (RC K k) (L<|Pq k a) σ H (d8 (Bz K M) [] E<|aU te b8):=by
 have h1:=h.conv λ_ _ q=>q.1;have h2:NT M E (RP K) (L (Bw.kZ<|bf k a)) σ H _:=cP (f:=λx=>L<|Bw.kZ x.1)<|aF gJ h1 bQ;rw[Bw.Zb fa.1] at h2;exact h2.conv λ_ _ q=>⟨q,Bw.QC fa⟩
end
theorem Nb{α:Type}:∀{l:ag α}{n:af}{x:α},l[n]? =L x->l.set n x=l
 |[],_,_,h=>by simp at h
 |_::_,0,_,h=>by cases h;rfl
 |a::l,n+1,x,h=>by
  show a::l.set n x=a::l;rw[Nb (n:=n) h]
def GO(k:aB)(ws:ag af)(n:af)(s:ag af×ag af):ag af×ag af:=(s.1.set n (rC k (ws.getD n 0) (ws.getD (n+3) 0) (s.1.getD n 0)<|s.2.getD n 0).1,s.2.set n (rC k (ws.getD n 0) (ws.getD (n+3) 0) (s.1.getD n 0)<|s.2.getD n 0).2)
def wG(k:aB)(ws:ag af)(s:ag af×ag af):af->ag af×ag af
 |0=>s
 |n+1=>GO k ws n<|wG k ws s n
theorem Rz(k:aB)(ws:ag af)(s:ag af×ag af):∀n,(wG k ws s n).1.length=s.1.length/\(wG k ws s n).2.length=s.2.length
 |0=>⟨J,J⟩
 |n+1=>by
  obtain⟨a,b⟩:=Rz k ws s n;exact⟨by show(List.set _ _ _).length=_;rw[o9,a],by show(List.set _ _ _).length=_;rw[o9,b]⟩
theorem kbs_kept(k:aB)(lo hi:dP)(b:ff):wG k [lo.x,lo.y,lo.z,hi.x,hi.y,hi.z] (b.at_.list,b.momentum.list) 3=((vR k (L (lo,hi)) b).at_.list,(vR k (L (lo,hi)) b).momentum.list):=J
section
variable{P:cN}{w:World}{K:aq}{mg:ax->aw aE}{base:b9}{M CK CB:ak}
def R6(K:aq)(k:aB):bO<|dP×dP:=λH v p=>RT K (RC K k) H v [p.1.x,p.1.y,p.1.z,p.2.x,p.2.y,p.2.z]
theorem monoT_6:lT<|R6 K k:=λ_ _ _ _ s h=>Sf du _ _ _ _ s h
def Vk(K:aq)(CB:ak)(k:aB):Sp:=λvs H Q _=>∃(ww:V)(a:ak)(A:ff)(q:dP×dP),vs=[.ref a,ww]/\bS k/\R6 K k H ww q/\ck K CB k H (.ref a) A/\ ∀H',gA a H H'->ck K CB k H' (.ref a) (vR k (L q) A)->Q .cE H'
theorem Ia:bE ["body","walls","place","momentum","k"] ["body","walls"] (bw<|aN 65):=fs
theorem ok_keep{f f1 f2 f3 f4:ak}{fd bZ dg fh hU:cX}(F:bz K "keep_between" "keep_between" (aN 65) f fd)(TC:jq mg)(TB:iM K mg CB)(G1:Gf K mg "is_below" qH f1 bZ ["x","y"])(G2:Gf K mg "without_sign" MF f2 dg ["x"])(G3:Gf K mg "opposite" zr f3 fh ["x"])(G4:Gf K mg "has_minus" qI f4 hU ["x"])(k:aB):aD P w K mg base (aO P w M) 20 f fd ["body","walls"]<|Vk K CB k:=by
 have O1:aD P w K mg base (aO P w M) 5 f1 bZ ["x","y"]<|oQ K M k:=(w9 G1.F k).gr.aV dc;have O2:aD P w K mg base (aO P w M) 5 f2 dg ["x"]<|Bz K M:=(ok_bare G2.F G4 G3).gr.aV dc;have O3:aD P w K mg base (aO P w M) 5 f3 fh ["x"]<|qM K M:=(y_ G3.F).gr.aV dc;have m1:=G1.m;have m2:=G2.m;have m3:=G3.m;have k1:=G1.F.kp;have k2:=G2.F.kp;have k3:=G3.F.kp;have b1:=G1.b;have b2:=G2.b;have b3:=G3.b;refine F.pQ Ia (λvs H Q E h=>?_) λcG A bC s H vs Q E hr h=>?_
 ·obtain⟨ww,a,A,q,rfl,_⟩:=h
  rfl
 ·obtain⟨ww,a,A,⟨lo,hi⟩,rfl,hk,hw,hA,kk⟩:=h
  refine⟨_,(aG (bA 2 Ia.nd (nU Kk J TC.list P2<|bu (bh<|O 0))) (aG (bA 3 Ia.nd (nU Kk J TC.list P2<|bu (bh<|O 0))) (aG (nW mr J (zg J TC.range<|bu a_) (ej 4 Ia.nd) (aR (dU (iT<|cJ O1 (hr.aV dc) J m1 k1 b1 .nil aA (bJ (dY j9 (O 2) (O 4) λ_ _=>J)<|dY uj (O 1) (O 4) λ_ _=>J)) (aG (zi (dY uj (O 1) (O 4) λ_ _=>J)<|zf (O 2) (O 4) zx) (aR<|zi (cJ O2 (hr.aV dc) J m2 k2 b2 .nil aA (bu<|dY j9 (O 3) (O 4) λ_ _=>J))<|zf (O 3) (O 4) zx)) (aR (dU (iT<|cJ O1 (hr.aV dc) J m1 k1 b1 .nil aA (bJ (dY uj (O 1) (bL fu (O 4) a_) λ_ _=>J)<|dY j9 (O 2) (O 4) λ_ _=>J)) (aG (zi (dY uj (O 1) (bL fu (O 4) a_) λ_ _=>J)<|zf (O 2) (O 4) zx) (aR<|zi (cJ O3 (hr.aV dc) J m3 k3 b3 .nil aA (bu<|cJ O2 (hr.aV dc) J m2 k2 b2 .nil aA (bu<|dY j9 (O 3) (O 4) λ_ _=>J)))<|zf (O 3) (O 4) zx)) d5))))) (aG (dH (O 0) (nU qi J TC.tuple rG (bu<|O 2)) J) (aR<|dH (O 0) (nU qi J TC.tuple rG (bu<|O 3)) J))))),?_⟩;obtain⟨a',dx,v0,v1,v2,v3,v4,v5,v6,ea,ha,h0,h1,h2,h3,h4,h5,h6⟩:=id hA
  cases ea
  obtain⟨p2,O,rfl,lu,ap⟩:=pW h2;obtain⟨p4,mv,rfl,hp4,am⟩:=pW h4;refine⟨_,J,a,CB,dx,_,_,J,ha,TB.cl,TB.np,PY,p2,O,J,.inr lu,λl1 qp=>?_⟩;have s1:az H (aC H l1<|.lst O):=az.new qp;refine⟨_,J,a,CB,dx,_,_,J,s1 _ _ ha,TB.cl,TB.G8,PZ,p4,mv,J,.inr<|s1.tup hp4,λl2 hX=>?_⟩;have s2:az H<|aC (aC H l1<|.lst O) l2<|.lst mv:=s1.trans<|az.new hX;have DB:l1≠l2:=λz=>by rw[<-z,bp] at hX;cases hX
  have n2:H l2=ah:=by rw[bI<|dy DB] at hX;exact hX
  have ws:RT K (RC K k) H ww [lo.x,lo.y,lo.z,hi.x,hi.y,hi.z]:=hw;refine⟨3,J,dc,dc,?_⟩;refine QI (lo:=0) (n:=3) (λj aS H'=>∃(x4:aw V)(O mv:ag V),aS=[L<|.ref a,L ww,L<|.ref l1,L<|.ref l2,x4]/\az H H'/\H' l1=L (.lst O)/\H' l2=L (.lst mv)/\cf (RC K k H') O (wG k [lo.x,lo.y,lo.z,hi.x,hi.y,hi.z] (A.at_.list,A.momentum.list) j).1/\cf (RC K k H') mv (wG k [lo.x,lo.y,lo.z,hi.x,hi.y,hi.z] (A.at_.list,A.momentum.list) j).2)
   ⟨ah,O,mv,J,s2,by rw[bI DB,bp],bp,ap.imp λv x=>aI _ _ _ _ s2,am.imp λv x=>aI _ _ _ _ s2⟩ (λj aS H' hj I=>?_) λaS H' I=>?_
  ·obtain⟨x4,O,mv,rfl,sm,e1,e2,ap,am⟩:=I
   obtain⟨lp,lm⟩:=Rz k [lo.x,lo.y,lo.z,hi.x,hi.y,hi.z] (A.at_.list,A.momentum.list) j;generalize hS:wG k [lo.x,lo.y,lo.z,hi.x,hi.y,hi.z] (A.at_.list,A.momentum.list) j=S at*;have QV:wG k [lo.x,lo.y,lo.z,hi.x,hi.y,hi.z] (A.at_.list,A.momentum.list) (j+1)=GO k [lo.x,lo.y,lo.z,hi.x,hi.y,hi.z] j S:=by rw[<-hS];rfl
   have lp:S.1.length=3:=lp;have lm:S.2.length=3:=lm;have gp:S.1[j]? =L (S.1.getD j 0):=by simp[mM,lp,hj]
   have gm:S.2[j]? =L (S.2.getD j 0):=by simp[mM,lm,hj]
   have gl:[lo.x,lo.y,lo.z,hi.x,hi.y,hi.z][j]? =L ([lo.x,lo.y,lo.z,hi.x,hi.y,hi.z].getD j 0):=by rw[BY,xI (by show j<6;omega)];rfl
   have gh:[lo.x,lo.y,lo.z,hi.x,hi.y,hi.z][j+3]? =L ([lo.x,lo.y,lo.z,hi.x,hi.y,hi.z].getD (j+3) 0):=by rw[BY,xI (by show j+3<6;omega)];rfl
   obtain⟨um,hum,rum⟩:=am.rO gm;have fm:cQ k<|S.2.getD j 0:=rum.2;generalize rW:[L<|V.ref a,L ww,L<|V.ref l1,L<|V.ref l2,L (V.int<|(0:ae)+(j:ae))]=c9;have i4:∀{Hc:Hp},NT M E fC (L j) c9 Hc<|au 4:=λ{Hc}=>by subst rW;exact aj J ib (by show V.int _=V.int _;rw[vE])
   have iw:∀{Hc:Hp},az H Hc->NT M E (RT K<|RC K k) (L [lo.x,lo.y,lo.z,hi.x,hi.y,hi.z]) c9 Hc (au 1):=λs=>by subst rW;exact aj J (yP aI)<|yP aI _ _ _ _ s ws
   have ip:∀{Hc:Hp}{O:ag V}{ps:ag af},Hc l1=L (.lst O)->cf (RC K k Hc) O ps->NT M E (RL K<|RC K k) (L ps) c9 Hc (au 2):=λe a=>by subst rW;exact aj J (cw aI) ⟨l1,_,J,SqL.of e,a⟩
   have im:∀{Hc:Hp}{O:ag V}{ps:ag af},Hc l2=L (.lst O)->cf (RC K k Hc) O ps->NT M E (RL K<|RC K k) (L ps) c9 Hc (au 3):=λe a=>by subst rW;exact aj J (cw aI) ⟨l2,_,J,SqL.of e,a⟩
   have dj:∀(U:Hp)(tw tm:TE)(x y:af),az H' U->(∀Hc,az H Hc->NT M E (RC K k) (L x) c9 Hc tw)->(∀Hc,az H Hc->Hc l2=L (.lst mv)->cf (RC K k Hc) mv S.2->NT M E (RC K k) (L y) c9 Hc tm)->rC k ([lo.x,lo.y,lo.z,hi.x,hi.y,hi.z].getD j 0) ([lo.x,lo.y,lo.z,hi.x,hi.y,hi.z].getD (j+3) 0) (S.1.getD j 0) (S.2.getD j 0)=(x,y)-> ∀D:Ends,(∀H',(∃(x4:aw V)(O mv:ag V),c9=[L<|.ref a,L ww,L<|.ref l1,L<|.ref l2,x4]/\az H H'/\H' l1=L (.lst O)/\H' l2=L (.lst mv)/\cf (RC K k H') O (GO k [lo.x,lo.y,lo.z,hi.x,hi.y,hi.z] j S).1/\cf (RC K k H') mv (GO k [lo.x,lo.y,lo.z,hi.x,hi.y,hi.z] j S).2)->D.nx c9 H')->
    oS (jU tw<|yw (au 2) (au 4) zj) (jU tm<|yw (au 3) (au 4) zj) D c9 U:=λU tw tm x y HQ n1 n2' eb D hD=>by
    have U7:=sm.trans HQ;refine(n1 U U7).go λu H2 s3 q=>?_;have Qn:=(HQ.trans s3) _ _ e1;have Kv:=(HQ.trans s3) _ _ e2;have lpv:=ap.bG;have lmv:=am.bG;have s2e:c9[2]? =L (L<|V.ref l1):=by subst rW;rfl
    have s3e:c9[3]? =L (L<|V.ref l2):=by subst rW;rfl
    have Up:c9[4]? =L (L<|V.int (j:ae)):=by subst rW;show L (L<|V.int _)=L (L<|V.int _);rw[vE]
    have yJ:kE O.length (j:ae)=L j:=by unfold kE;rw[aH om,aH om,kl]
    have ixm:kE mv.length (j:ae)=L j:=by unfold kE;rw[aH om,aH om,kl]
    refine⟨_,s2e,_,Up,l1,O,(j:ae),j,J,J,Qn,yJ,?_⟩;have t3:cp H2<|aC H2 l1 (.lst<|O.set j u):=cp.aC (by rw[Qn];trivial);have U8:az H<|aC H2 l1 (.lst<|O.set j u):=λb o e=>by rw[bI<|dv e qp];exact s3 _ _<|U7 _ _ e
    have Kw:aC H2 l1 (.lst<|O.set j u) l2=L (.lst mv):=by rw[bI<|dy DB];exact Kv
    have tt:cp H'<|aC H2 l1 (.lst<|O.set j u):=((HQ.trans s3).i.1).trans t3;refine(n2' _ U8 Kw (am.imp λv x=>du _ _ _ _ tt)).go λu2 H3 s4 q2=>?_;refine⟨_,s3e,_,Up,l2,mv,(j:ae),j,J,J,s4 _ _ Kw,ixm,?_⟩;have t4:cp H3<|aC H3 l2 (.lst<|mv.set j u2):=cp.aC (by rw[s4 _ _ Kw];trivial);have V7:cp H'<|aC H3 l2 (.lst<|mv.set j u2):=(tt.trans s4.i.1).trans t4;refine hD _ ⟨L<|.int (j:ae),O.set j u,mv.set j u2,?_,λb o e=>?_,?_,bp,?_,?_⟩
    ·subst rW;rw[vE]
    ·rw[bI<|dv e n2];exact s4 _ _<|U8 _ _ e
    ·rw[bI DB];exact s4 _ _ bp
    ·show cf _ _<|S.1.set j (rC k _ _ _ _).1
     rw[eb];exact(ap.imp λv x=>du _ _ _ _ V7).set j<|du _ _ _ _ ((t3.trans s4.i.1).trans t4) q
    ·show cf _ _<|S.2.set j (rC k _ _ _ _).2
     rw[eb];exact(am.imp λv x=>du _ _ _ _ V7).set j<|du.up t4 q2
   have nP:NT M E (RC K k) (L<|S.1.getD j 0) c9 H' (bY (lL K) (au 2)<|au 4):=qB aI (ip e1 ap) i4 gp;have nL:∀{Hc:Hp},az H Hc->NT M E (RC K k) (L<|[lo.x,lo.y,lo.z,hi.x,hi.y,hi.z].getD j 0) c9 Hc (bY (dI K) (au 1)<|au 4):=λs=>DZ aI (iw s) i4 gl;have n3:∀{Hc:Hp},NT M E fC (L 3) c9 Hc (tC<|.int 3):=iH ib J;have nH:∀{Hc:Hp},az H Hc->NT M E (RC K k) (L<|[lo.x,lo.y,lo.z,hi.x,hi.y,hi.z].getD (j+3) 0) c9 Hc (bY (dI K) (au 1) (bY (gy λi j=>.int<|i+j) (au 4) (tC<|.int 3))):=λs=>DZ aI (iw s) (Hh i4 n3) gh;have nB:∀Hc,az H Hc->Hc l2=L (.lst mv)->cf (RC K k Hc) mv S.2->NT M E (RC K k) (L (Pq k<|S.2.getD j 0)) c9 Hc (d8 (Bz K M) [] E<|aU (bY (lL K) (au 3)<|au 4) b8):=λHc s e a=>nt_barec fm<|qB aI (im e a) i4 gm;have go:∀D:Ends,_->zE (tB (d8 (oQ K M k) [] E (aU (bY (lL K) (au 2)<|au 4)<|aU (bY (dI K) (au 1)<|au 4) b8)))
     (oS (jU (bY (dI K) (au 1)<|au 4)<|yw (au 2) (au 4) zj)<|jU (d8 (Bz K M) [] E<|aU (bY (lL K) (au 3)<|au 4) b8)<|yw (au 3) (au 4) zj)
     (zE (tB (d8 (oQ K M k) [] E<|aU (bY (dI K) (au 1) (bY (gy λi j=>.int<|i+j) (au 4) (tC<|.int 3)))<|aU (bY (lL K) (au 2)<|au 4) b8))
       (oS (jU (bY (dI K) (au 1) (bY (gy λi j=>.int<|i+j) (au 4) (tC<|.int 3)))<|yw (au 2) (au 4) zj)<|jU (d8 (qM K M) [] E<|aU (d8 (Bz K M) [] E<|aU (bY (lL K) (au 3)<|au 4) b8) b8)<|yw (au 3) (au 4) zj)
       IT) D c9 H':=λD hD=>by
    refine(sy (nP.cW λ_ _ _=>dS hk) ((nL sm).cW λ_ _ _=>dS hk)).go λv U s1 q1=>⟨_,q1,?_⟩
    cases c1:jH k (S.1.getD j 0) ([lo.x,lo.y,lo.z,hi.x,hi.y,hi.z].getD j 0) with
    |true=>
     rw[aH J];exact dj U _ _ _ _ s1 (λHc s=>nL s) nB (by unfold rC;rw[aH c1]) D hD
    |false=>
     rw[ay dc];have nP1:NT M E (RC K k) (L<|S.1.getD j 0) c9 U (bY (lL K) (au 2)<|au 4):=nP.at_ s1;refine(sy ((nH<|sm.trans s1).cW λ_ _ _=>dS hk) (nP1.cW λ_ _ _=>dS hk)).go λv H2 s2 q2=>⟨_,q2,?_⟩
     cases c2:jH k ([lo.x,lo.y,lo.z,hi.x,hi.y,hi.z].getD (j+3) 0) (S.1.getD j 0) with
     |true=>
      rw[aH J];refine dj H2 _ _ _ (Pq k (S.2.getD j 0)+k.sign) (s1.trans s2) (λHc s=>nH s) (λHc s e a=>?_) (by unfold rC;rw[ay (by rw[c1];decide),aH c2]) D hD;have:=Hr (Bw.QC fm)<|nB Hc s e a;rw[<-Bw.size_sign] at this;exact this
     |false=>
      rw[ay dc];have eb:rC k ([lo.x,lo.y,lo.z,hi.x,hi.y,hi.z].getD j 0) ([lo.x,lo.y,lo.z,hi.x,hi.y,hi.z].getD (j+3) 0) (S.1.getD j 0) (S.2.getD j 0)=(S.1.getD j 0,S.2.getD j 0):=by unfold rC;rw[ay (by rw[c1];decide),ay (by rw[c2];decide)]
      have ji:=s1.trans s2;refine hD H2 ⟨L<|.int (j:ae),O,mv,by subst rW;rw[vE],sm.trans ji,ji _ _ e1,ji _ _ e2,?_,?_⟩
      ·show cf _ _<|S.1.set j (rC k _ _ _ _).1
       rw[eb,Nb gp];exact ap.imp λv x=>aI _ _ _ _ ji
      ·show cf _ _<|S.2.set j (rC k _ _ _ _).2
       rw[eb,Nb gm];exact am.imp λv x=>aI _ _ _ _ ji
   show zE _ _ _ _ ([L<|V.ref a,L ww,L<|V.ref l1,L<|V.ref l2,L (V.int<|(0:ae)+(j:ae))]) H';rw[rW];exact go _ λH3⟨x4,O,mv,e,q⟩=>⟨x4,O,mv,e,by rw[QV];exact q⟩
  ·obtain⟨x4,O,mv,rfl,sm,e1,e2,ap,am⟩:=I
   rw[kbs_kept] at ap am;have nP:NT M E (R3 K k) (L (vR k (L (lo,hi)) A).at_) [L<|.ref a,L ww,L<|.ref l1,L<|.ref l2,x4] H' (xy (Mw K)<|aU (au 2) b8):=λU Q s kq=>⟨_,J,l1,O,J,.inl ⟨SqL.of<|s _ _ e1,λt ht=>kq.ok _ _ _ (az.new ht) J<|uN ⟨t,O,J,cD.of bp,ap.imp λv x=>aI _ _ _ _ (s.trans<|az.new ht)⟩⟩⟩;refine VI TB nP J (cu.up sm hA) (λ_ _ e=>nomatch e) λy1 U ey x1 tZ=>?_
   cases ey
   have Kv:U l2=L (.lst mv):=x1 _ _ e2<|eF e2 (sm _ _ ha) (by intro q;cases q);have t1:cp H' U:=⟨λz xs e=>x1 _ _ e<|eF e (sm _ _ ha) (by intro q;cases q),λz o u e=>x1 _ _ e<|eF e (sm _ _ ha) (by intro q;cases q)⟩;have nM:NT M E (R3 K k) (L (vR k (L (lo,hi)) A).momentum) [L<|.ref a,L ww,L<|.ref l1,L<|.ref l2,x4] U (xy (Mw K)<|aU (au 3) b8):=λH2 Q s kq=>⟨_,J,l2,mv,J,.inl ⟨SqL.of<|s _ _ Kv,λt ht=>kq.ok _ _ _ (az.new ht) J (uN ⟨t,mv,J,cD.of bp,am.imp λv x q=>aI _ _ _ _ (s.trans<|az.new ht)<|du.up t1 q⟩)⟩⟩;refine IM TB nM J tZ (λ_ _ e=>nomatch e) λy2 H2 ey x2 AD=>?_
   cases ey
   exact kk H2 ((sm.x.trans x1).trans x2) AD
end
end BW
namespace BW
open PySem PySem.Spec PyProof.Rows L2
open Bw (bS cQ bf cn qX rh iu ic f_ qd jR lK kg ba)
section
variable{P:cN}{w:World}{K:aq}{mg:ax->aw aE}{base:b9}{M CK CB CM CP CS CN CU:ak}
def C4(k:aB)(x:j1×ag ff×ag j0×j1):aw (ag<|aw z9):=(fS k x).bind λsp=>ba (λy=>lK k y.1 y.2)<|x.2.2.1.zip sp
abbrev Nu(K:aq)(M CK CB CS CU:ak)(k:aB):Sp:=c7 M (EZ K CK CB CS k) (RL K<|z7 K CU k)<|C4 k
theorem Ep:bE ["kind","bodies","springs","spans","spring","span"] ["kind","bodies","springs"] (bw<|aN 61):=fs
theorem ok_findPushes{f:ak}(F:bz K "find_pushes" "find_pushes" (aN 61) f fd)(TC:jq mg)(A1:cU P w K mg base M 20 "find_spans" ["kind","bodies","springs"] λk=>Iz K M CK CB CS CN CP k)(A2:cU P w K mg base M 24 "find_push" ["kind","spring","span"] λk=>Nt K M CK CS CN CP CU k)(k:aB):aD P w K mg base (aO P w M) 30 f fd ["kind","bodies","springs"]<|Nu K M CK CB CS CU k:=by
 obtain⟨f2,dg,m2,k2,b2,O2⟩:=A2;refine F.oc Ep λH Q E hr h=>?_;obtain⟨⟨_,bs,ss,_⟩,⟨⟨w1,r1,rfl,h1,w2,r2,rfl,h2,w3,r3,rfl,h3,rfl⟩,j8⟩,kk⟩:=h
 refine⟨_,(aG (bA 3 Ep.nd<|A1.c k hr aA (bF (O 0) (O 1)<|O 2)) (aR (bg (oH (own:=[("spring",4),("span",5)]) (g:=KQ K 4 5) J J J jM J Ep.nd (Mo J TC.zip (bJ (O 2)<|O 3)) bk
  (λ_ _ _ _ _=>Bh (n:=2) J (pR (ej 4 Ep.nd)<|pR (ej 5 Ep.nd) Bi)) (λ_ _ _ _ _=>jh)
  (λ_ _ _ _ _=>by exact cJ (O2 k) (hr.aV dc) J m2 k2 b2 .nil jO (bF (O 0) (O 4)<|O 5)))))),?_⟩
 have v0:∀{σ:L2.St}{Hc:Hp},σ[0]? =L (L w1)->az H Hc->NT M E (RK CK k) (L ()) σ Hc (au 0):=λe s=>aj e aM<|aM.up s h1;have n1:=cP (R:=fI<|jG K CN CP k) (σ:=[L w1,L w2,L w3,ah,ah,ah]) (f:=fS k) (nT (c:=λx=>oo x.2.1.length x.2.2.1/\x.2.1.length<=4096/\x.2.2.1.length<=8192) (aF aM (v0 J sr) (aF (cw cu) (aj (i:=1) J (cw cu) h2)<|aF (cw eJ.m) (aj (i:=2) J (cw eJ.m) h3) bQ)) λy e=>by cases e;exact j8);refine bW.bindB kk sr n1 λsp u U s1 F_ q1s kk=>?_;have q1:RL K (jG K CN CP k) U u sp:=Ei q1s;have hl:=Bw.iI F_;refine bW.gQ kk s1 (nt_lcZ Sa.mD Sa.m eJ.m kG.m (aF (cw eJ.m) (aj (i:=2) J (cw eJ.m)<|cw eJ.m _ _ _ _ s1 h3)<|aF (cw kG.m) (aj (i:=3) J (cw kG.m) q1) bQ) hl.symm (dJ j8.2.2 dc) (λ_ _=>J) λH2 u1 u2 y z s2 _ r1 r2=>?_);exact cP (t:=L ((),y,z,())) (f:=λx=>lK k x.2.1 x.2.2.1) (aF aM (v0 J<|s1.trans s2) (aF eJ.m (aj (i:=4) J eJ.m r1)<|aF kG.m (aj (i:=5) J kG.m r2) bQ))
end
end BW
namespace BW
open PySem PySem.Spec PyProof.Rows L2
open Bw (bS cQ bf cn qX rh iu ic f_ qd jR lK kg ba dW lF jS)
section
variable{K:aq}{CB:ak}{k:aB}
def Cn(K:aq)(k:aB):bO (aw<|dP×dP):=λH v m=>(v= .cE/\m=ah)\/ ∃p,m=L p/\(∃a,v= .ref a)/\R6 K k H v p
theorem qw:lT<|Cn K k:=λ_ _ _ _ s h=>h.imp (λz=>z) λ⟨p,e,a,r⟩=>⟨p,e,a,monoT_6.up s r⟩
theorem UW{α:Type}{x y:α}{t:ag α}:∀{zs:ag α},(zs++x::t).set zs.length y=zs++y::t
 |[]=>rfl
 |z::zs=>by
  show z::(zs++x::t).set zs.length y=_;rw[UW];rfl
def iJ(K:aq)(CB:ak)(k:aB)(H:Hp)(as:ag ak)(bs:ag ff):Prop:=cf (ck K CB k H) (as.map V.ref) bs
theorem iJ.same(h:iJ K CB k H as bs)(s:az H H'):iJ K CB k H' as bs:=cf.imp (λv x=>cu _ _ _ _ s) h
theorem iJ.get(h:iJ K CB k H as bs)(hi:i<bs.length):∃a,as[i]? =L a/\ck K CB k H (.ref a) (bs.getD i default):=by
 obtain⟨v,hv,r⟩:=cf.rO h (i:=i) (x:=bs.getD i default)<|by simp[mM,hi]
 rw[mO] at hv
 cases e:as[i]? with
 |none=>rw[e] at hv;cases hv
 |some a=>rw[e] at hv;cases hv;exact⟨a,J,r⟩
theorem iJ.at_(h:iJ K CB k H as bs){i:af}(h1:as[i]? =L a)(h2:bs[i]? =L b):ck K CB k H (.ref a) b:=cf.at_ h (by rw[mO,h1];rfl) h2
theorem iJ.bG(h:iJ K CB k H as bs):as.length=bs.length:=by
 have:=cf.bG h;rwa[hJ] at this
theorem iJ.of(hl:as.length=bs.length)(h:∀(i:af)a b,as[i]? =L a->bs[i]? =L b->ck K CB k H (.ref a) b):iJ K CB k H as bs:=cf.Md (by rw[hJ];exact hl) λi v b h1 h2=>by
 rw[mO] at h1
 cases e:as[i]? with
 |none=>rw[e] at h1;cases h1
 |some a=>rw[e] at h1;cases h1;exact h i a b e h2
theorem G0{as:ag ak}(nd:as.Nodup){i j:af}(h1:as[i]? =L a)(h2:as[j]? =L a):i=j:=by
 obtain⟨g1,e1⟩:=List.getElem?_eq_some_iff.mp h1;obtain⟨g2,e2⟩:=List.getElem?_eq_some_iff.mp h2;exact(Xb nd).mp<|e1.trans e2.symm
theorem iJ.put(nd:as.Nodup)(h:iJ K CB k H as bs)(hi:as[i]? =L a)(st:∀c d,c≠a->ck K CB k H (.ref c) d->ck K CB k H' (.ref c) d)(hb:ck K CB k H' (.ref a) b):iJ K CB k H' as<|bs.set i b:=iJ.of (by rw[o9];exact h.bG) λn c d h1 h2=>by
  by_cases e:n=i
  ·subst e
   rw[hi] at h1
   cases h1
   rw[B0 (by rw[<-h.bG];exact(List.getElem?_eq_some_iff.mp hi).1)] at h2
   cases h2
   exact hb
  ·rw[zP<|dy e] at h2
   exact st c d (λz=>e (G0 nd h1<|z▸hi))<|h.at_ h1 h2
theorem iJ.put2(nd:as.Nodup)(h:iJ K CB k H as bs)(hij:i≠j)(hi:as[i]? =L a)(hj:as[j]? =L c)(st:∀x d,x≠a->x≠c->ck K CB k H (.ref x) d->ck K CB k H' (.ref x) d)(hb:ck K CB k H' (.ref a) b)(hd:ck K CB k H' (.ref c) d):iJ K CB k H' as<|(bs.set i b).set j d:=iJ.of (by rw[o9,o9];exact h.bG) λn x y h1 h2=>by
  by_cases e:n=j
  ·subst e
   rw[hj] at h1
   cases h1
   rw[B0 (by rw[o9,<-h.bG];exact(List.getElem?_eq_some_iff.mp hj).1)] at h2
   cases h2
   exact hd
  ·rw[zP<|dy e] at h2
   by_cases e':n=i
   ·subst e'
    rw[hi] at h1
    cases h1
    rw[B0 (by rw[<-h.bG];exact(List.getElem?_eq_some_iff.mp hi).1)] at h2
    cases h2
    exact hb
   ·rw[zP<|dy e'] at h2
    exact st x y (λz=>e' (G0 nd h1<|z▸hi)) (λz=>e (G0 nd h1<|z▸hj))<|h.at_ h1 h2
end
section
variable{P:cN}{w:World}{K:aq}{mg:ax->aw aE}{base:b9}{M CK CB CS CU:ak}
abbrev Wr(K:aq)(CK CB CS:ak)(k:aB):fV<|j1×ag ff×ag j0×aw (dP×dP)×af×j1:=rj (aQ (RK CK k) (aQ (RL K<|ck K CB k) (aQ (RL K<|i8 K CS k) (aQ (Cn K k)<|aQ (RC K k) cq)))) λx=>oo x.2.1.length x.2.2.1/\x.2.1.length<=4096/\x.2.2.1.length<=8192
def Qv(k:aB)(x:j1×ag ff×ag j0×aw (dP×dP)×af×j1):aw<|ag ff:=jS k x.2.2.2.2.1 {bodies:=x.2.1,springs:=x.2.2.1,walls:=x.2.2.2.1}
def jF(H0:Hp)(R:bO α):bO<|ag α:=λH v xs=>∃p vs,v= .ref p/\H p=L (.lst vs)/\cf (R H) vs xs/\H0 p=ah
def EI(C:ak)(A:fV τ)(R:Hp->ag V->τ->bO α)(f:τ->aw α):Sp:=λvs H Q E=>∃t,A H vs t/\bW C (R H vs t) H (f t) Q E
instance{A:fV τ}{R:Hp->ag V->τ->bO α}{f:τ->aw α}[q:LR A n]:LS (EI C A R f) n:=⟨λ⟨_,h,_⟩=>q.l h⟩
theorem nt_callF{A:fV τ}{t:aw τ}{f:τ->aw (ag α)}(h:NA C E A t σ H ta):NT C E (jF H R) (t.bind f) σ H<|d8 (EI C A (λH _ _=>jF H R) f) [] E ta:=λU Q s k=>
 h U _ s ⟨λH2 vs y s2 e q=>⟨y,by rw[o8];exact q,λH' v z s' e'⟨p,us,e1,e2,e3,e4⟩=>k.ok H' v z (s2.trans s') (by rw[e];exact e') ⟨p,us,e1,e2,e3,(s.trans s2).free e4⟩,λH' s' e'=>k.no H' (s2.trans s') (by rw[e];exact e')⟩,λH2 s2 e=>k.no H2 s2 (by rw[e];rfl)⟩
abbrev NF(K:aq)(M CK CB CS:ak)(k:aB):Sp:=EI M (Wr K CK CB CS k) (λH _ _=>jF H<|ck K CB k)<|Qv k
theorem zu:bE ["kind","bodies","springs","walls","dt","pushes","later","spring","push","body"] ["kind","bodies","springs","walls","dt"] (bw<|aN 66):=fs
theorem ok_oneStep{f fB fT:ak}{fd Ge tV:cX}(F:bz K "one_step" "one_step" (aN 66) f fd)(TC:jq mg)(B:BM P w K mg base M CK CB)(TS:Tx K mg CS "Spring" oN)(mB:mg "Body"=L (.ref CB))
 (MB:Mk K CB fB) (OB:∀k,aD P w K mg base (aO P w M) 10 fB Ge ["self","numbers"]<|EH K M CB k) (bB:Binds K Ge ["self","numbers"] []) (B4:o_ K CB "twenty" fT) (rg:∀k,aD P w K mg base (aO P w M) 10 fT tV ["self"]<|u_ K M CB k) (CG:Binds K tV ["self"] [])
 (A1:cU P w K mg base M 30 "find_pushes" ["kind","bodies","springs"] λk=>Nu K M CK CB CS CU k) (A3:cU P w K mg base M 20 "do_push" ["kind","push","first","second","dt"] λk=>Ve K M CK CB CU k) (A4:cU P w K mg base M 20 "move" ["kind","body","dt"] λk=>Vl K M CK CB k) (A5:cU P w K mg base M 20 "keep_between" ["body","walls"] λk=>Vk K CB k) (k:aB):
 aD P w K mg base (aO P w M) 34 f fd ["kind","bodies","springs","walls","dt"]<|NF K M CK CB CS k:=by
 obtain⟨f3,fh,m3,k3,b3,O3⟩:=A3;obtain⟨f4,hU,m4,k4,b4,O4⟩:=A4;obtain⟨f5,fd5,m5,k5,b5,O5⟩:=A5;refine F.oc zu λH Q E hr h=>?_;obtain⟨⟨_,bs,ss,wl,dt,_⟩,⟨⟨w1,r1,rfl,h1,w2,r2,rfl,h2,w3,r3,rfl,h3,w4,r4,rfl,h4,w5,r5,rfl,h5,rfl⟩,j8⟩,kk⟩:=h
 refine⟨_,(aG (bA 5 zu.nd<|A1.c k hr aA (bF (O 0) (O 1)<|O 2))
  (aG (Bj (i:=6) (own:=[("body",9)]) J J J jM J zu.nd J J (BF J J J J) (jf<|O 1) bk (λ_ _ _ _ _=>by exact ej 9 zu.nd) (λ_ _ _ _ _=>jh) λ_ _ _ _ _=>by exact oI MB (OB k) (hr.aV dc) J mB bB .nil jO (bu<|ee (O 9) B.TB.cl B4 (rg k) (hr.aV dc) CG .nil jO))
  (aG (nW mr J (Mo J TC.zip (bJ (O 2)<|O 5)) (Bh J (pR (ej 7 zu.nd)<|pR (ej 8 zu.nd) Bi))<|aR (dU (dB Tp (O 8) nV<|cT _) (aR<|pU (cJ (O3 k) (hr.aV dc) J m3 k3 b3 .nil aA (dz (O 0)<|dz (O 8) (bF (dY j9 (O 6) (bh<|O 7) λ_ _=>J) (dY j9 (O 6) (bh<|O 7) λ_ _=>J)<|O 4)))) d5))
  (aG (nW mr J (jf<|O 6) (ej 9 zu.nd) (aG (pU<|cJ (O4 k) (hr.aV dc) J m4 k4 b4 .nil aA (bF (O 0) (O 9)<|O 4)) (aR<|dU (dB Tp (O 3) nV<|cT _) (aR (pU<|cJ (O5 k) (hr.aV dc) J m5 k5 b5 .nil aA (bJ (O 9)<|O 3))) d5)))
  (aR (bg<|O 6)))))),?_⟩
 obtain⟨p2,bv,rfl,lu,a2⟩:=id h2;obtain⟨p3,sv,rfl,rV,a3⟩:=id h3;have n1:NT M E (RL K<|z7 K CU k) (C4 k ((),bs,ss,())) [L w1,L<|.ref p2,L<|.ref p3,L w4,L w5,ah,ah,ah,ah,ah] H _:=cP (t:=L ((),bs,ss,())) (f:=C4 k) (nT (c:=λx=>oo x.2.1.length x.2.2.1/\x.2.1.length<=4096/\x.2.2.1.length<=8192) (aF aM (aj (i:=0) J aM h1) (aF (cw cu) (aj (i:=1) J (cw cu) h2)<|aF (cw eJ.m) (aj (i:=2) J (cw eJ.m) h3) bQ)) λy e=>by cases e;exact j8);refine bW.bindB (rb:=C4 k ((),bs,ss,())) kk sr n1 λps u5 U s1 C3 q1 kk=>?_;have fj:ps.length=ss.length:=by
  unfold C4 at C3
  cases e:fS k ((),bs,ss,()) with
  |none=>rw[e] at C3;cases C3
  |some sp=>
   rw[e] at C3;have l1:=Bw.iI C3;have l2:sp.length=ss.length:=Bw.iI e;rw[l1,Fe,l2];exact OJ _
 obtain⟨p5,O,rfl,AN,a5⟩:=q1;refine⟨_,J,p2,J,⟨bv,s1.seq lu⟩,λD hD=>?_⟩;refine GQ (K:=K) (xs:=bv) (λj Hc=>∃as:ag ak,az U Hc/\Hc D=L (.lst<|as.map V.ref)/\as.Nodup/\(∀a∈as,U a=ah/\a≠D)/\iJ K CB k Hc as (bs.take j))
  ⟨[],az.new hD,bp,List.nodup_nil,(λ_ h=>nomatch h),by rw[mP];trivial⟩ (λj Hc _⟨as,sm,_⟩=>sm.seq<|s1.seq lu) (λj x Hc hx I=>?_) λHc I=>?_
 ·obtain⟨as,sm,eD,nd,fr,hb⟩:=I
  obtain⟨b,wu,rb⟩:=a2.get hx;have hj:j<bs.length:=by
   rcases Fj j bs.length with z|z
   ·exact z
   ·rw[BZ z] at wu;cases wu
  refine⟨J,?_⟩;unfold oU;refine pH ?_;have nTw:NT M E (Ci K k) (L<|mX b) ((c8 [L w1,L<|V.ref p2,L<|.ref p3,L w4,L w5,L<|.ref p5,ah,ah,ah,ah] [9]).set 9<|L x) Hc<|eu CB "twenty" (u_ K M CB k) [] E (au 9) b8:=(NT.eq (oF (R':=ck K CB k) (y:=b) (t:=L ()) (f:=λx=>L<|mX x.1) (aj J cu<|cu _ _ _ _ (s1.trans sm) rb) cu (λH v⟨a,dx,v0,v1,v2,v3,v4,v5,v6,e,h,_⟩=>⟨a,dx,_,e,h,by unfold fL;sleep 1;rfl⟩) bQ) J).conv λH v h=>⟨.inr h,J⟩
  refine(aF DI nTw bQ) Hc _ sr ⟨λH4 vs y s4 e q=>λx dx n0 n1 n2=>?_,λH4 s4 e=>nomatch e⟩
  cases e
  refine⟨H4,x,dx,(mX b,()),vs,by rw[o8],bp,(az.new n1).trans (az.new<|by rw[bI<|dy n2];exact n0),n0,q,λH' z s' e' r=>⟨J,as.map V.ref,s' _ _<|s4 _ _ eD,?_,as++[x],λc o e=>?_,by rw[B2];exact bp,?_,λa ha=>?_,?_⟩,λ_ _ e=>nomatch e⟩
  ·rw[cf.bG hb,km]
   exact vJ (dJ (Xr _ _) j8.2.1) dc
  ·rw[bI<|dv e hD]
   exact s' _ _ (s4 _ _<|sm _ _ e)
  ·refine List.nodup_append.mpr ⟨nd,by simp,λa ha b ud e=>?_⟩
   have ud:b=x:=by simpa using ud
   subst ud e;obtain⟨i,hi⟩:=Oy ha;obtain⟨y,_,a',_,_,_,_,_,_,_,_,ea,hh,_⟩:=cf.get hb (i:=i) (v:=.ref a) (by rw[mO,hi];rfl)
   cases ea
   rw[s4 _ _ hh] at n0
   cases n0
  ·rcases List.mem_append.mp ha with ha|ha
   ·exact fr a ha
   ·have ha:a=x:=by simpa using ha
    subst ha;exact⟨(sm.trans s4).free n0,λz=>by rw[z,s4 _ _ eD] at n0;cases n0⟩
  ·cases e'
   have si:fJ H'<|aC H' D (.lst<|as.map V.ref++[V.ref x]):=fJ.aC (by rw[s' _ _<|s4 _ _ eD];trivial);show cf _ ((as++[x]).map V.ref) _;rw[B2,Bw.take_snoc wu];exact(cf.imp (λv y h=>uo _ _ _ _ ((s4.trans s').i.trans si) h) hb).snoc<|uo.up si r
 obtain⟨as,sm,eD,nd,fr,hb⟩:=I;rw[a2.bG,lS] at hb;have D0:U D=ah:=hD;have iD:∀{Hc:Hp},az U Hc->SqL K Hc p3 sv/\SqL K Hc p5 O:=λs=>⟨s.seq<|s1.seq rV,s.seq AN⟩;refine⟨_,J,_,J,p3,p5,sv,O,J,(iD sm).1,(iD sm).2,?_⟩;refine QJ (K:=K) (xs:=sv) (ys:=O) (by rw[a3.bG,a5.bG];exact fj.symm) (λj aS H'=>∃(x7 x8:aw V)(gB:ag ff),aS=[L w1,L<|.ref p2,L<|.ref p3,L w4,L w5,L<|.ref p5,L<|.ref D,x7,x8,ah]/\az U H'/\H' D=L (.lst<|as.map V.ref)/\iJ K CB k H' as gB/\dW (λbs(x:j0×aw z9)=>Co k dt bs x.1 x.2) bs ((ss.zip ps).take j)=L gB/\gB.length=bs.length)
  ⟨ah,ah,bs,J,sm,eD,hb,by rw[mP];rfl,J⟩ (λj aS H' _⟨_,_,_,_,sm,_⟩=>iD sm) (λj x y T aS H' hx hy I hT=>?_) λaS H' I=>?_
 ·obtain⟨x7,x8,gB,rfl,sm,eD,hb,ef,hl⟩:=I
  obtain⟨sp,hsp',rsp⟩:=a3.get hx;obtain⟨po,hpo,rpo⟩:=a5.get hy;have hz:(ss.zip ps)[j]? =L (sp,po):=by rw[Oz];exact⟨hsp',hpo⟩
  have sT:az H' (aC H' T<|.tup [x,y]):=az.new hT;have kM:=sm.trans sT;refine Az bp ?_;have hb:=hb.same sT;have eD:=sT _ _ eD;rcases rpo with⟨rfl,rfl⟩|⟨p,rfl,rp⟩
  ·refine⟨_,J,J,_,J,?_⟩
   show if aK=ao then _ else _
   rw[ay dc];exact⟨L x,L .cE,gB,J,kM,eD,hb,by rw[Bw.KI hz ef];rfl,hl⟩
  ·obtain⟨pa,pdx,e0,e1,e2,rfl,hpa,_⟩:=id rp
   refine⟨_,J,J,_,J,?_⟩;show if ao=ao then _ else _
   rw[aH J];obtain⟨ED,EE,so3⟩:=j8.1 sp<|jW hsp';obtain⟨sa,sdx,f2,f3,f4,f5,f6,rfl,hsa,_⟩:=id rsp;have ED:sp.one<gB.length:=by rw[hl];exact ED
   have EE:sp.other<gB.length:=by rw[hl];exact EE
   obtain⟨a,ha,ra⟩:=hb.get ED;obtain⟨c,hc,rc⟩:=hb.get EE
   have AE:a≠c:=λz=>so3 (by
    subst z
    exact G0 nd ha hc)
   have Ri:=(s1.trans kM) _ _ hsa;have YB:tN (as.map V.ref) (sp.one:ae)=L (V.ref a):=tO (by rw[mO,ha];rfl);have YC:tN (as.map V.ref) (sp.other:ae)=L (V.ref c):=tO (by rw[mO,hc];rfl);refine⟨_,J,_,J,_,J,_,J,sa,CS,sdx,_,_,J,Ri,TS.cl,TS.na _ dk,by unfold oR;sleep 1,D,_,_,_,J,J,SqL.of eD,YB,_,J,_,J,sa,CS,sdx,_,_,J,Ri,TS.cl,TS.na _ dk,by unfold oR;sleep 1,D,_,_,_,J,J,SqL.of eD,YC,_,J,?_⟩;refine⟨U,_,_,_,a,c,p,gB.getD sp.one default,gB.getD sp.other default,dt,J,kM,(fr a<|jW ha).1,(fr c<|jW hc).1,AE,aM.up s1 h1,rp,aI.up s1 h5,ra,rc,λH2 A' B' fx eA eB rA rB=>?_,λH2 s2 en=>kk.no H2 (s1.trans s2) ?_⟩
   ·have my:cp (aC H' T<|.tup [V.ref sa,V.ref pa]) H2:=by
     obtain⟨_,_,_,_,_,_,_,_,_,ea,haa,_⟩:=ra;obtain⟨_,_,_,_,_,_,_,_,_,ec,Dg,_⟩:=rc
     cases ea
     cases ec
     exact⟨λz xs e=>fx _ _ e (eF e haa (by intro q;cases q))<|eF e Dg (by intro q;cases q),λz o u e=>fx _ _ e (eF e haa (by intro q;cases q))<|eF e Dg (by intro q;cases q)⟩
    have keep:∀x y,x≠a->x≠c->ck K CB k (aC H' T<|.tup [V.ref sa,V.ref pa]) (.ref x) y->ck K CB k H2 (.ref x) y:=λx y n1 n2 h=>by
     obtain⟨x',dx,v0,v1,v2,v3,v4,v5,v6,ex,hxx,g0,g1,g2,g3,g4,g5,g6⟩:=h
     cases ex
     exact⟨x,dx,v0,v1,v2,v3,v4,v5,v6,J,fx _ _ hxx n1 n2,du.up my g0,cO.up my g1,cO.up my g2,qt.up my g3,cO.up my g4,cO.up my g5,cO.up my g6⟩
    have Q4:Co k dt gB sp (L p)=L ((gB.set sp.one A').set sp.other B'):=by
     unfold Co;simp only[eA,eB];rfl
    refine⟨L<|.ref sa,L<|.ref pa,(gB.set sp.one A').set sp.other B',J,λz o e=>fx _ _ (kM _ _ e) (dv e (fr a<|jW ha).1)<|dv e (fr c<|jW hc).1,fx _ _ eD (dy (fr a<|jW ha).2)<|dy (fr c<|jW hc).2,?_,by rw[Bw.KI hz ef];exact Q4,by rw[Bw.Qj Q4,hl]⟩;exact hb.put2 nd so3 ha hc keep rA rB
   ·refine Option.bind_eq_none_iff.mpr λz ez=>?_
    rw[Bw.QF hz ef] at ez
    ·cases ez
    ·show Co k dt gB sp (L p)=ah
     unfold Co;simp only;rcases en with en|en
     ·rw[en];rfl
     ·rw[en];cases Ab k dt p.from_ p.push (gB.getD sp.one default)<;>rfl
 ·obtain⟨x7,x8,bs2,rfl,sm,eD,hb,ef,hl⟩:=I
  rw[a3.bG] at ef;have Gb:(ss.zip ps).length=ss.length:=by rw[Fe,fj];exact OJ _
  rw[<-Gb,lS] at ef;have kk:bW M (jF H<|ck K CB k) H (ba (λb=>(lF k dt b).map<|vR k wl) bs2) Q E:=kk.eq (by rw[ef];rfl);refine⟨_,J,D,J,⟨_,SqL.of eD⟩,?_⟩;have lb:=hb.bG;refine Ay (K:=K) (xs:=as.map V.ref) (λj aS H'=>∃(x9:aw V)(zs:ag ff),aS=[L w1,L<|.ref p2,L<|.ref p3,L w4,L w5,L<|.ref p5,L<|.ref D,x7,x8,x9]/\az U H'/\H' D=L (.lst<|as.map V.ref)/\iJ K CB k H' as (zs++bs2.drop j)/\ba (λb=>(lF k dt b).map<|vR k wl) (bs2.take j)=L zs)
   ⟨ah,[],J,sm,eD,by rw[Ov];exact hb,by rw[mP];rfl⟩ (λj aS H' _⟨_,_,_,_,eD,_⟩=>SqL.of eD) (λj x aS H' hx I=>?_) λaS H' I=>?_
  ·obtain⟨x9,zs,rfl,sm,eD,hb,ez⟩:=I
   rw[mO] at hx
   cases ea:as[j]? with
   |none=>rw[ea] at hx;cases hx
   |some a=>
   rw[ea] at hx
   cases hx
   have hj:j<bs2.length:=by rw[<-lb];exact(List.getElem?_eq_some_iff.mp ea).1
   have wu:bs2[j]? =L (bs2.getD j default):=by simp[mM,hj]
   have lz:zs.length=j:=by rw[Bw.iI ez,km];omega
   have hzj:(zs++bs2.drop j)[j]? =L (bs2.getD j default):=by
    rw[Ox om,lz,Xu,W9];exact wu
   have ra:=hb.at_ ea hzj;have fa:=fr a<|jW ea;refine⟨_,J,_,J,_,J,?_⟩;have dj:∀(H2:Hp)(b':ff),gA a H' H2->((lF k dt<|bs2.getD j default).map<|vR k wl)=L b'->ck K CB k H2 (.ref a) b'-> ∃(x9:aw V)(zs:ag ff),[L w1,L<|.ref p2,L<|.ref p3,L w4,L w5,L<|.ref p5,L<|.ref D,x7,x8,L<|V.ref a]=[L w1,L<|.ref p2,L<|.ref p3,L w4,L w5,L<|.ref p5,L<|.ref D,x7,x8,x9]/\az U H2/\H2 D=L (.lst<|as.map V.ref)/\iJ K CB k H2 as (zs++bs2.drop (j+1))/\ba (λb=>(lF k dt b).map<|vR k wl) (bs2.take<|j+1)=L zs:=λH2 b' x2 eb rb=>by
    refine⟨L<|.ref a,zs++[b'],J,x2.base sm fa.1,x2 _ _ eD<|dy fa.2,?_,?_⟩
    ·have:=hb.put nd ea (λc d n h=>CJ x2 ra n h) rb
     have e:(zs++bs2.drop j).set j b'=zs++[b']++bs2.drop (j+1):=by
      rw[Bw.Ql wu,<-lz,UW,JA,lz];rfl
     rwa[e] at this
    ·rw[Bv wu,ez,eb]
     rfl
   refine⟨U,_,_,a,bs2.getD j default,dt,J,sm,fa.1,aM.up s1 h1,aI.up s1 h5,ra,λH2 A' x2 eA rA=>?_,λH2 s2 en=>kk.no H2 (s1.trans s2)<|Bw.Io wu (by rw[en];rfl)⟩;have wl2:=qw _ _ _ _ ((s1.trans<|x2.base sm fa.1).i.1) h4;rcases wl2 with⟨rfl,rfl⟩|⟨q,rfl,⟨wa,rfl⟩,rq⟩
   ·refine⟨_,J,J,_,J,?_⟩
    show if aK=ao then _ else _
    rw[ay dc];exact dj H2 A' x2 (by rw[eA];rfl) rA
   ·refine⟨_,J,J,_,J,?_⟩
    show if ao=ao then _ else _
    rw[aH J];refine⟨_,J,_,J,?_⟩;exact⟨_,a,A',q,J,h1.1,rq,rA,λH3 x3 r3=>dj H3 _ (x2.trans x3) (by rw[eA];rfl) r3⟩
  ·obtain⟨x9,zs,rfl,sm,eD,hb,ez⟩:=I
   have el:(as.map V.ref).length=bs2.length:=by rw[hJ,lb]
   rw[el] at hb ez;rw[lS] at ez;rw[W2,o8] at hb;exact⟨_,J,kk.ok H' _ zs (s1.trans sm) ez ⟨D,_,J,eD,hb,s1.free D0⟩⟩
end
end BW
namespace BW
open PySem PySem.Spec PyProof.Rows L2
open Bw (bS cQ bf cn ba jS jl)
def uI(k:aB)(a:af):pj:=.tuple [.int (bf k a).1,.int (bf k a).2]
def D_(k:aB)(l:ag af):pj:=.tuple (l.map<|uI k)
def Bg(k:aB)(l:ag<|ag af):pj:=.list (l.map<|D_ k)
theorem Ky{α β:Type}{f:α->pj}{h:α->β}(hf:∀x y,Fs (f x) (f y)=ao->h x=h y):∀{l m:ag α},Ft (l.map f) (m.map f)=ao->l.map h=m.map h
 |[],[],_=>rfl
 |[],_::_,e=>by simp[Ft] at e
 |_::_,[],e=>by simp[Ft] at e
 |x::l,y::m,e=>by
  simp[kr,Ft,eR] at e;rw[kr,kr,hf x y e.1,Ky hf e.2]
theorem Zr(k:aB)(x y:af)(h:Fs (uI k x) (uI k y)=ao):bf k x=bf k y:=by
 simp only[uI,Fs,Ft,eR,beq_iff_eq] at h;exact Prod.ext h.1 h.2.1
theorem Zs(k:aB)(h:Fs (Bg k l) (Bg k m)=ao):l.map (Ff<|bf k)=m.map (Ff<|bf k):=by
 refine Ky (λx y e=>?_) h;exact Ky (Zr k) e
theorem Kl{α:Type}{f:α->pj}(hf:∀x,Cc (f x)=ao):∀l:ag α,JU (l.map f)=ao
 |[]=>by simp[JU]
 |x::l=>by simp[kr,JU,eR];exact⟨hf x,Kl hf l⟩
theorem Ks{α:Type}{f:α->pj}(hf:∀x,Cd (f x)<=n):∀l:ag α,OW (l.map f)<=n
 |[]=>by simp[OW]
 |x::l=>by
  exact Nat.max_le.mpr ⟨hf x,Ks hf l⟩
theorem UZ(k:aB)(l:ag<|ag af):J7 (Bg k l)=ao:=by
 have c1:∀x,Cc (uI k x)=ao:=λx=>by simp[uI,Cc,JU]
 have c2:∀x,Cc (D_ k x)=ao:=λx=>by simp[D_,Cc];exact Kl c1 x
 have d1:∀x,Cd (uI k x)<=1:=λx=>by simp[uI,Cd,OW]
 have d2:∀x,Cd (D_ k x)<=2:=λx=>by simp only[D_,Cd];exact Nat.succ_le_succ<|Ks d1 x
 unfold J7;rw[eR];refine⟨by simp[Bg,Cc];exact Kl c2 l,dD ?_⟩;simp[Bg,Cd];have:=Ks d2 l;omega
section
variable{K:aq}{k:aB}{H:Hp}
theorem Zm(h:RC K k H v a):Dp K H v<|uI k a:=by
 obtain⟨⟨p,rfl,hp⟩,_⟩:=h;exact .tup hp (.cons (.int _)<|.cons (.int _) .nil)
theorem Kt{R:V->α->Prop}{f:α->pj}(hf:∀v x,R v x->Dp K H v (f x)):∀{vs:ag V}{xs:ag α},cf R vs xs->xE K H vs (xs.map f)
 |[],[],_=>.nil
 |_::_,_::_,h=>.cons (hf _ _ h.1)<|Kt hf h.2
theorem Qk(h:RL K (RT K<|RC K k) H v l):Dp K H v<|Bg k l:=by
 obtain⟨p,vs,rfl,hp,ha⟩:=h;refine .lst hp<|Kt (λv x h=>?_) ha;obtain⟨q,us,rfl,hq,hb⟩:=h;exact .tup hq<|Kt (λv x h=>Zm h) hb
theorem QB(h:cf (RT K (RC K k) H) vs l):∀x∈l,∀a∈x,cQ k a:=λx hx a ha=>by
 obtain⟨i,hi⟩:=Oy hx;obtain⟨v,_,q,us,_,_,hb⟩:=h.rO hi;obtain⟨j,hj⟩:=Oy ha;obtain⟨u,_,r⟩:=hb.rO hj;exact r.2
theorem R0:∀{l m:ag af},(∀a∈l,cQ k a)->(∀a∈m,cQ k a)->l.map (bf k)=m.map (bf k)->l=m
 |[],[],_,_,_=>rfl
 |[],_::_,_,_,h=>by cases h
 |_::_,[],_,_,h=>by cases h
 |x::l,y::m,f,g,h=>by
  simp[kr,vG] at h;rw[Bw.Y_ (f x ik).1 (g y ik).1 h.1,R0 (λa ha=>f a<|gz _ ha) (λa ha=>g a<|gz _ ha) h.2]
theorem R7:∀{l m:ag (ag af)},(∀x∈l,∀a∈x,cQ k a)->(∀x∈m,∀a∈x,cQ k a)->l.map (Ff<|bf k)=m.map (Ff<|bf k)->l=m
 |[],[],_,_,_=>rfl
 |[],_::_,_,_,h=>by cases h
 |_::_,[],_,_,h=>by cases h
 |x::l,y::m,f,g,h=>by
  simp[kr,vG] at h;rw[R0 (f x ik) (g y ik) h.1,R7 (λa ha=>f a<|gz _ ha) (λa ha=>g a<|gz _ ha) h.2]
end
section
variable{P:cN}{w:World}{K:aq}{mg:ax->aw aE}{base:b9}{M CK CB CS:ak}
def vP(K:aq)(CB:ak)(k:aB):bO<|ag ff:=λH v bs=>RL K (ck K CB k) H v bs/\bs.length<=4096
theorem pJ:cV<|vP K CB k:=λ_ _ _ _ s h=>⟨cw cu _ _ _ _ s h.1,h.2⟩
abbrev U_(K:aq)(M CB:ak)(k:aB):Sp:=c7 M (aQ (vP K CB k) cq) (RL K (RT K<|RC K k)) λx=>L<|x.1.map mX
theorem MJ:bE ["bodies","body"] ["bodies"] (bw<|aN 67):=fs
theorem Mc(h:NT M E (ck K CB k) (L b) σ H te):NT M E (RT K<|RC K k) (L<|mX b) σ H<|eu CB "twenty" (u_ K M CB k) [] E te b8:=NT.eq (oF h cu (λH v⟨a,dx,v0,v1,v2,v3,v4,v5,v6,e,h,_⟩=>⟨a,dx,_,e,h,by unfold fL;sleep 1;rfl⟩) bQ) J
theorem ok_allTw(F:bz K "all_twenties" "all_twenties" (aN 67) f fd)(TB:iM K mg CB)(B4:o_ K CB "twenty" fT)(rg:∀k,aD P w K mg base (aO P w M) 10 fT tV ["self"]<|u_ K M CB k)(CG:Binds K tV ["self"] [])(k:aB):aD P w K mg base (aO P w M) 20 f fd ["bodies"]<|U_ K M CB k:=by
 refine F.oc MJ λH Q E hr h=>?_;obtain⟨⟨bs,_⟩,⟨w1,r1,rfl,h1,rfl⟩,kk⟩:=h;refine⟨_,aR<|bg (oH (own:=[("body",1)]) J J J jM J MJ.nd (jf<|O 0) bk (λ_ _ _ _ _=>ej 1 MJ.nd) (λ_ _ _ _ _=>jh) λ_ _ _ _ _=>ee (O 1) TB.cl B4 (rg k) (hr.aV dc) CG .nil jO),?_⟩;refine kk.by<|(w8 (Sf du).i.mD (yP aI) cu (aj J (cw cu) h1.1) (dJ h1.2 dc) (λ_=>J) λU v y s _ r=>Mc<|aj J cu r).eq<|Bw.lN _
abbrev Ws(K:aq)(CK CB CS:ak)(k:aB):fV<|j1×ag ff×ag j0×aw (dP×dP)×af×af×j1:=rj (aQ (RK CK k) (aQ (RL K<|ck K CB k) (aQ (RL K<|i8 K CS k)<|aQ (Cn K k) (aQ fC<|aQ (RC K k) cq)))) λx=>oo x.2.1.length x.2.2.1/\x.2.1.length<=4096/\x.2.2.1.length<=8192/\x.2.2.2.2.1<=1000000
def Zz(k:aB)(x:j1×ag ff×ag j0×aw (dP×dP)×af×af×j1):aw<|ag ff:=jl k x.2.2.2.2.2.1 {springs:=x.2.2.1,walls:=x.2.2.2.1} x.2.2.2.2.1 x.2.1
def xT(H0:Hp)(v0:V)(BN:ag α)(R:bO α):bO<|ag α:=λH v xs=>(v=v0/\xs=BN)\/jF H0 R H v xs
theorem xT.l{R:bO α}{xs BN:ag α}(h:xT H0 v0 BN R H v xs)(h0:RL K R H v0 BN):RL K R H v xs:=h.elim (λ⟨e,e'⟩=>by rw[e,e'];exact h0) λ⟨p,vs,e,h,a,_⟩=>⟨p,vs,e,SqL.of h,a⟩
theorem Sk{R:bO α}{BN:ag α}(m:cV R):cV<|xT H0 v0 BN R:=λ_ _ _ _ s h=>h.imp (λh=>h) λ⟨p,vs,e,h,a,n⟩=>⟨p,vs,e,s _ _ h,a.imp λv x=>m _ _ _ _ s,n⟩
abbrev IE(K:aq)(M CK CB CS:ak)(k:aB):Sp:=EI M (Ws K CK CB CS k) (λH vs t=>xT H (vs.getD 1 .cE) t.2.1<|ck K CB k)<|Zz k
theorem Ig:bE ["kind","bodies","springs","walls","n","dt","k","later"] ["kind","bodies","springs","walls","n","dt"] (bw<|aN 68):=fs
theorem VD{dt:af}{w:rm}(h:jS k dt w=L l):l.length=w.bodies.length:=by
 obtain⟨ps,_,h⟩:=Option.bind_eq_some_iff.mp h;obtain⟨bs,e,h⟩:=Option.bind_eq_some_iff.mp h;have AA:∀l s s',Bw.dW (λbs(x:j0×aw z9)=>Co k dt bs x.1 x.2) s l=L s'->s'.length=s.length:=λl=>by
  induction l with
  |nil=>intro s s' h;cases h;rfl
  |cons a l ih=>
   intro s s' h;obtain⟨t,e1,e2⟩:=Option.bind_eq_some_iff.mp h;rw[ih t s' e2,Bw.Qj e1]
 rw[Bw.iI h,AA _ _ _ e]
theorem ok_several{f:ak}{fd:cX}(F:bz K "several_steps" "several_steps" (aN 68) f fd)(TC:jq mg)(A1:cU P w K mg base M 34 "one_step" ["kind","bodies","springs","walls","dt"] λk=>NF K M CK CB CS k)(A2:cU P w K mg base M 20 "all_twenties" ["bodies"] λk=>U_ K M CB k)(k:aB):aD P w K mg base (aO P w M) 38 f fd ["kind","bodies","springs","walls","n","dt"]<|IE K M CK CB CS k:=by
 refine F.oc Ig λH Q E hr h=>?_;obtain⟨⟨_,bs,ss,wl,n,dt,_⟩,⟨⟨w1,r1,rfl,h1,w2,r2,rfl,h2,w3,r3,rfl,h3,w4,r4,rfl,h4,w5,r5,rfl,h5,w6,r6,rfl,h6,rfl⟩,j8,oC,AQ,hn⟩,kk⟩:=h;subst h5;have hn:n<=1000000:=hn
 refine⟨_,aG (nW mr J (zg J TC.range (bu<|O 4)) (ej 6 Ig.nd)
  (aG (bA 7 Ig.nd<|A1.c k hr aA (dz (O 0)<|dz (O 1) (bF (O 2) (O 3)<|O 5)))
  (aG (dU (dB (op_eqD hr.units) (A2.c k hr aA (bu<|O 7)) (A2.c k hr aA (bu<|O 1))<|cT _) (aR ps_break) d5)
  (aR (bA 1 Ig.nd<|O 7)))))<|aR (bg<|O 1),?_⟩
 have kk:bW M (xT H w2 bs<|ck K CB k) H (jl k dt {springs:=ss,walls:=wl} n bs) Q E:=kk;refine⟨_,J,(n:ae),J,om,om,?_⟩;rw[kl];refine QI (lo:=0) (n:=n) (λj aS H'=>∃(x6 x7:aw V)(vb:V)(bj:ag ff),aS=[L w1,L vb,L w3,L w4,L<|.int (n:ae),L w6,x6,x7]/\az H H'/\xT H w2 bs (ck K CB k) H' vb bj/\bj.length=bs.length/\jl k dt {springs:=ss,walls:=wl} n bs=jl k dt {springs:=ss,walls:=wl} (n-j) bj)
  ⟨ah,ah,w2,bs,J,az.refl _,.inl ⟨J,J⟩,J,J⟩ (λj aS H' hj I=>?_) λaS H' I=>?_
 ·obtain⟨x6,x7,vb,bj,rfl,sm,rb,hl,es⟩:=I
  have hsb:oo bj.length ss:=by rw[hl];exact j8
  have Zt:n-j=(n-(j+1))+1:=by omega
  have es:jl k dt {springs:=ss,walls:=wl} n bs=(jS k dt {bodies:=bj,springs:=ss,walls:=wl}).bind (jl k dt {springs:=ss,walls:=wl}<|n-(j+1)):=by rw[es,Zt];rfl
  have n1:NT M E (jF H'<|ck K CB k) _ [L w1,L vb,L w3,L w4,L<|.int (n:ae),L w6,L (.int<|0+(j:ae)),x7] H' _:=nt_callF (f:=Qv k) (nT (c:=λx=>oo x.2.1.length x.2.2.1/\x.2.1.length<=4096/\x.2.2.1.length<=8192) (aF aM (aj (i:=0) J aM<|aM.up sm h1) (aF (cw cu) (aj (i:=1) J (cw cu) (rb.l<|cw cu _ _ _ _ sm h2)) (aF (cw eJ.m) (aj (i:=2) J (cw eJ.m)<|cw eJ.m _ _ _ _ sm h3) (aF qw.i.m (aj (i:=3) J qw.i.m<|qw.i.m.up sm h4)<|aF aI (aj (i:=5) J aI<|aI.up sm h6) bQ)))) λy e=>by cases e;exact⟨hsb,by rw[hl];exact oC,AQ⟩);refine bW.bindB (kk.eq es) sm n1 λDC u7 U s1 el q1 Lv=>?_;have q1:xT H w2 bs (ck K CB k) U u7 DC:=.inr (by obtain⟨p,us,e1,e2,e3,e4⟩:=q1;exact⟨p,us,e1,e2,e3,sm.free e4⟩);have ll:DC.length=bs.length:=by rw[VD el];exact hl
  have U5:=sm.trans s1;have n2:NT M E (RL K (RT K<|RC K k)) _ [L w1,L vb,L w3,L w4,L<|.int (n:ae),L w6,L (.int<|0+(j:ae)),L u7] U _:=cP (t:=L (DC,())) (f:=λx=>L<|x.1.map mX)<|aF pJ (aj (i:=7) J pJ ⟨q1.l<|cw cu _ _ _ _ U5 h2,by rw[ll];exact oC⟩) bQ;refine n2.go λua H2 s2 qa=>?_;have n3:NT M E (RL K (RT K<|RC K k)) (L<|bj.map mX) [L w1,L vb,L w3,L w4,L<|.int (n:ae),L w6,L (.int<|0+(j:ae)),L u7] H2 _:=cP (t:=L (bj,())) (f:=λx=>L<|x.1.map mX)<|aF pJ (aj (i:=1) J pJ ⟨cw cu _ _ _ _ (s1.trans s2) (rb.l<|cw cu _ _ _ _ sm h2),by rw[hl];exact oC⟩) bQ;refine n3.go λub H3 s3 qb=>?_;have qa:=cw (yP aI) _ _ _ _ s3 qa;have U6:=(U5.trans s2).trans s3;refine⟨_,_,Qk qa,Qk qb,UZ k _,UZ k _,_,J,d4 (λc=>?_) λc=>?_⟩
  ·have e:=Zs k c
   obtain⟨_,va,_,_,fa⟩:=qa;obtain⟨_,mI,_,_,fb⟩:=qb;have e2:=Bw.R5<|R7 (QB fa) (QB fb) e;subst e2;refine⟨_,J,kk.ok H3 _ DC U6 ?_<|Sk cu _ _ _ _ ((s1.trans s2).trans s3) rb⟩;rw[es,el];exact Bw.VF el _
  ·refine⟨_,J,?_⟩
   exact⟨L (.int<|0+(j:ae)),L u7,u7,DC,J,U6,Sk cu _ _ _ _ (s2.trans s3) q1,ll,by rw[es,el];rfl⟩
 ·obtain⟨x6,x7,vb,bj,rfl,sm,rb,hl,es⟩:=I
  rw[Xu] at es;exact⟨_,J,kk.ok H' _ bj sm es rb⟩
end
end BW
namespace BW
open PySem PySem.Spec PyProof.Rows L2
open Bw (bS cQ bf cn ba dW gI j' dC e_)
section
variable{α β:Type}{K:aq}{C:ak}{R:bO α}{R':bO β}{H:Hp}{E:XK}{σ:L2.St}
theorem Ho(st:tJ R)(m:cV R)(m':cV R')(h0:NT C E (RL K R') (L ys) σ H tl)(dG:ys.length<=bH)
 (hw:∀v,c8 ((c8 σ vs).set i<|L v) vs=c8 σ vs) (he:∀U v y,az H U->y∈ys->R' U v y->NT C E R (f y) ((c8 σ vs).set i<|L v) U te):
 NT C E (fI R) (ba f ys) σ H<|mE (yH K tl) (eE i) oU te vs:=λU Q s k=>by
 refine(h0.at_ s).go λv H2 s2 q=>?_;obtain⟨p,us,rfl,hp,ha⟩:=q;refine⟨p,J,⟨us,hp⟩,λD hD=>?_⟩;have k2:=k.at_ s2;have kx:bW C (RL K R) H2 _ (λ_ _=>i9) E:=⟨λ_ _ _ _ _ _=>cg,k2.no⟩;refine GQ (eX D H2 R f ys) (eX.start hD) (λj Hc _ I=>I.same.seq hp) (λj x Hc hx I=>?_) λHc I=>?_
 ·obtain⟨y,hy,ry⟩:=ha.get hx
  refine⟨hw x,?_⟩;exact eX.step st m hD dG kx hy I<|he Hc x y (s.trans<|s2.trans I.same) (jW hy)<|m' _ _ _ _ I.same ry
 ·rw[ha.bG] at I
  obtain⟨sm,d6,zs,e1,a1,e2⟩:=I;rw[lS] at e2;exact k2.ok Hc _ zs sm e2 ⟨D,d6,J,e1,a1⟩
theorem nt_lcRs{i n:af}(st:tJ R)(m:cV R)(h0:NA C E (aQ (λ_ v j=>v= .int j) cq) (L (n,())) σ H ta)(dG:n<=bH)
 (hw:∀v,c8 ((c8 σ vs).set i<|L v) vs=c8 σ vs) (he:∀U j,az H U->j<n->NT C E R (f j) ((c8 σ vs).set i (L<|.int j)) U te):
 NT C E (fI R) (ba f<|il n) σ H<|mE (GG ta) (eE i) oU te vs:=λU Q s k=>by
 refine h0 U _ s ⟨λH2 us y s2 e q=>?_,λH2 s2 e=>nomatch e⟩
 cases e
 obtain⟨v,r,rfl,e1,e2⟩:=q;subst e1;subst e2;have hz:bH<2^62:=by decide
 refine⟨n,J,om,om,λD hD=>?_⟩;have k2:=k.at_ s2;have kx:bW C (RL [] R) H2 _ (λ_ _=>i9) E:=⟨λ_ _ _ _ _ _=>cg,k2.no⟩;rw[kl];refine GR (eX D H2 R f<|il n) (eX.start hD) (λj Hc hj I=>?_) λHc I=>?_
 ·refine⟨hw _,?_⟩
  rw[vE];exact eX.step st m hD (by rw[vH];exact dG) kx (by simp[hj]) I<|he Hc j (s.trans<|s2.trans I.same) hj
 ·have I':eX D H2 R f (il n) (il n).length Hc:=by rw[vH];exact I
  obtain⟨sm,d6,zs,e1,a1,e2⟩:=I';rw[lS] at e2;exact k2.ok Hc _ zs sm e2 ⟨D,d6,J,e1,a1⟩
end
section
variable{P:cN}{w:World}{K:aq}{mg:ax->aw aE}{base:b9}{M CK CB CS:ak}
abbrev spWN(K:aq)(M CK:ak)(k:aB):Sp:=c7 M (aQ (RK CK k) (aQ (RC K k)<|aQ (RC K k) cq)) (RC K k) λx=>eU k x.2.1 x.2.2.1
abbrev spWP(K:aq)(M CK:ak)(k:aB):Sp:=c7 M (aQ (RK CK k) (aQ (RC K k)<|aQ (jo K k) cq)) (RC K k) λx=>e_ k x.2.1 x.2.2.1
theorem scWN:bE ["kind","s","x"] ["kind","s","x"] (bw<|aN 70):=fs
theorem scWP:bE ["kind","s","pair"] ["kind","s","pair"] (bw<|aN 71):=fs
theorem ok_wn(F:bz K "with_number_added" "with_number_added" (aN 70) f fd)(aJ:KM P w K mg base M CK)(k:aB):aD P w K mg base (aO P w M) 10 f fd ["kind","s","x"]<|spWN K M CK k:=by
 obtain⟨f1,bZ,M1,b1,O1⟩:=aJ.add;refine F.oc scWN λH Q E hr h=>?_;obtain⟨⟨_,a,b,_⟩,⟨w1,r1,rfl,h1,w2,r2,rfl,h2,w3,r3,rfl,h3,rfl⟩,kk⟩:=h;refine⟨_,aR (bg<|bV (O 0) aJ.T.cl M1 (O1 k) (hr.aV dc) b1 .nil aA (bJ (O 1)<|O 2)),?_⟩;exact kk.by (uy h1.1 (aj J aM h1) (aj J aI h2)<|aj J aI h3)
theorem ok_wp(F:bz K "with_product_added" "with_product_added" (aN 71) f fd)(aJ:KM P w K mg base M CK)(k:aB):aD P w K mg base (aO P w M) 10 f fd ["kind","s","pair"]<|spWP K M CK k:=by
 obtain⟨f1,bZ,M1,b1,O1⟩:=aJ.ma;refine F.oc scWP λH Q E hr h=>?_;obtain⟨⟨_,a,p,_⟩,⟨w1,r1,rfl,h1,w2,r2,rfl,h2,w3,r3,rfl,h3,rfl⟩,kk⟩:=h;refine⟨_,aR (bg<|bV (O 0) aJ.T.cl M1 (O1 k) (hr.aV dc) b1 .nil aA (bF (aX<|O 2) (aX<|O 2)<|O 1)),?_⟩;have v2:NT M E _ _ [L w1,L w2,L w3] H<|au 2:=aj J gD h3;have i0:=ka 0 v2 λ_ _⟨a,x,y,e,r,h1,h2⟩=>⟨a,_,x,e,r,J,h1⟩;have i1:=ka 1 v2 λ_ _⟨a,x,y,e,r,h1,h2⟩=>⟨a,_,y,e,r,J,h2⟩;exact kk.by<|uB (g:=tH k) G9 (aj J aM h1) i0 i1 ((aj J aI h2).cW λ_ _ _=>dS h1.1)
def Pf(K:aq)(k:aB)(n:af):bO<|ag af:=λH v l=>RL K (RC K k) H v l/\l.length=2^n
theorem Sj:cV<|Pf K k n:=λ_ _ _ _ s h=>⟨cw aI _ _ _ _ s h.1,h.2⟩
abbrev spFo(K:aq)(M CK:ak)(k:aB)(n:af):Sp:=c7 M (aQ (RK CK k)<|aQ (Pf K k n) cq) (RC K k) λx=>(jK (eU k) n x.2.1).map λr=>r.headD 0
theorem Es:bE ["kind","lanes","half","j"] ["kind","lanes"] (bw<|aN 72):=fs
theorem ok_folded{f:ak}{fd:cX}(F:bz K "folded" "folded" (aN 72) f fd)(TC:jq mg)(aJ:KM P w K mg base M CK)(k:aB)(n:af)(hn:n<=4):aD P w K mg base (aO P w M) 14 f fd ["kind","lanes"]<|spFo K M CK k n:=by
 obtain⟨f1,bZ,M1,b1,O1⟩:=aJ.add;refine F.oc Es λH Q E hr h=>?_;obtain⟨⟨_,l0,_⟩,⟨w1,r1,rfl,h1,w2,r2,rfl,⟨h2,Dj⟩,rfl⟩,kk⟩:=h
 refine⟨_,aG (Ms mr (dB uF (jy ox J TC.bG pA (bu<|O 1)) a_<|cT _)
  (aG (bA 2 Es.nd<|bL D7 (jy ox J TC.bG pA (bu<|O 1)) a_)
  (aR (bA 1 Es.nd<|oH (own:=[("j",3)]) (te:=eu CK "plus" (qJ K M CK k<|eU k) [] E (au 0) (aU (bY (lL K) (au 1)<|au 3) (aU (bY (lL K) (au 1)<|bY (gy λi j=>.int<|i+j) (au 3)<|au 2) b8))) J J J jM J Es.nd (zg J TC.range (bu<|O 2)) bk (λ_ _ _ _ _=>ej 3 Es.nd) (λ_ _ _ _ _=>jh)
    (λ_ _ _ _ _=>bV (O 0) aJ.T.cl M1 (O1 k) (hr.aV dc) b1 .nil jO<|bJ (dY j9 (O 1) (O 3) λ_ _=>J) (dY j9 (O 1) (bL fu (O 3)<|O 2) λ_ _=>J))))))
  (aR (bg<|dY j9 (O 1) a_ λ_ _=>J)),?_⟩
 have kk:bW M (RC K k) H ((jK (eU k) n l0).map λr=>r.headD 0) Q E:=kk;have Dj:l0.length=2^n:=Dj;refine⟨λm aS H'=>∃(x2 x3:aw V)(vl:V)(l:ag af),aS=[L w1,L vl,x2,x3]/\az H H'/\RL K (RC K k) H' vl l/\l.length=2^m/\m<=4/\jK (eU k) n l0=jK (eU k) m l,⟨n,ah,ah,w2,l0,J,az.refl _,h2,Dj,hn,J⟩,?_⟩
 rintro m aS H' ⟨x2,x3,vl,l,rfl,sm,rl,hl,hm,ef⟩
 obtain⟨p,lv,rfl,hp,ha⟩:=id rl;have dG:=ha.bG;refine⟨_,J,p,lv,J,.inl hp,_,_,J,J,_,J,?_⟩
 cases m with
 |zero=>
  have e1:lv.length=1:=by rw[dG,hl]
  rw[e1];refine Dt ?_;obtain⟨a,t,rfl,g⟩:=dQ (n:=0) (show l.length=0+1 by rw[hl]);have g:t=[]:=JB g;subst g;obtain⟨u,hu,ru⟩:=ha.rO (i:=0) (x:=a) J;refine⟨_,J,p,lv,0,u,J,J,hp,tO (j:=0) hu,kk.ok H' _ a sm (by rw[ef];rfl) ru⟩
 |succ m=>
  have e1:(lv.length:ae)=2^(m+1):=by rw[dG,hl];simp
  have e2:(2:ae)^(m+1)=2*2^m:=by rw[Int.pow_succ];omega
  have e3:(1:ae)<=2^m:=by have:=Bw.mi m;omega
  have hc:decide ((1:ae)<(lv.length:ae))=ao:=dD om;rw[hc];refine pH ?_;refine⟨λaS H'=>∃(x2 x3:aw V)(vl:V)(l:ag af),aS=[L w1,L vl,x2,x3]/\az H H'/\RL K (RC K k) H' vl l/\l.length=2^m/\m<=4/\jK (eU k) n l0=jK (eU k) m l,λaS H' h=>⟨m,Fl _,h⟩,?_⟩;refine⟨_,J,p,lv,J,.inl hp,_,_,J,J,⟨by show(0:ae)<2;decide,dc⟩,?_⟩;have eh:(lv.length:ae)/2=((2^m:af):ae):=by rw[e1,e2];simp
  have hz:2^m<=16:=dJ (jY dc (by omega:m<=4)) dc;dsimp only[eE];rw[eh];have fs:=Bw.Ax 0 (eU k) m hl;have kk2:bW M (RC K k) H ((ba (λj=>eU k (l.getD j 0)<|l.getD (j+2^m) 0) (il<|2^m)).bind λl'=>(jK (eU k) m l').map λr=>r.headD 0) Q E:=kk.eq (by rw[ef,fs];cases ba (λj=>eU k (l.getD j 0)<|l.getD (j+2^m) 0) (il<|2^m)<;>rfl);have nl:=SU (K:=K) (R:=RC K k) (C:=M) (E:=E) (H:=H') (i:=3) (n:=2^m) (vs:=[3]) (ta:=aU (au 2) b8) (f:=λj=>eU k (l.getD j 0)<|l.getD (j+2^m) 0) du.i.mD aI
   (aF (λ_ _ _ _ _ h=>h) (aj (i:=2) (y:=((2^m:af):ae)) J (λ_ _ _ _ _ h=>h) J) bQ) (dJ hz dc) (λ_=>J) λU j s1 hj=>by
     have i3:NT M E fC (L j) ((c8 [L w1,L<|.ref p,L<|.int ((2^m:af):ae),x3] [3]).set 3 (L<|.int (j:ae))) U<|au 3:=aj J ib J;have i2:NT M E fC (L<|2^m) ((c8 [L w1,L<|.ref p,L<|.int ((2^m:af):ae),x3] [3]).set 3 (L<|.int (j:ae))) U<|au 2:=aj J ib J;have i1:NT M E (RL K<|RC K k) (L l) ((c8 [L w1,L<|.ref p,L<|.int ((2^m:af):ae),x3] [3]).set 3 (L<|.int (j:ae))) U<|au 1:=aj J (cw aI) (cw aI _ _ _ _ s1 rl);have g1:l[j]? =L (l.getD j 0):=by simp[mM,show j<l.length by omega]
     have g2:l[j+2^m]? =L (l.getD (j+2^m) 0):=by simp[mM,show j+2^m<l.length by omega]
     exact uy h1.1 (aj (i:=0) J aM<|aM _ _ _ _ (sm.trans s1) h1) (qB aI i1 i3 g1)<|qB aI i1 (Hh i3 i2) g2
  refine bW.bindB kk2 sm nl λl' u U s1 el q1 _=>?_;refine⟨L<|.int ((2^m:af):ae),x3,u,l',J,sm.trans s1,q1,by rw[Bw.iI el,vH],om,?_⟩;rw[ef,fs,el];rfl
end
end BW
namespace BW
open PySem PySem.Spec PyProof.Rows L2
open Bw (bS cQ bf cn ba dW gI j' dC e_)
section
variable{α β:Type}{K:aq}{C:ak}{R:bO α}{R':bO β}{H:Hp}{E:XK}{σ:L2.St}
theorem SW(st:tJ R)(m:cV R)(m':cV R')(h0:NT C E (RL K R') (L ys) σ H tl)(dG:ys.length<=bH)
 (hw:∀v,c8 ((c8 σ vs).set i<|L v) vs=c8 σ vs) (he:∀U v y,az H U->y∈ys->R' U v y->NT C E R (f y) ((c8 σ vs).set i<|L v) U te):
 NT C E (jF H R) (ba f ys) σ H<|mE (yH K tl) (eE i) oU te vs:=λU Q s k=>by
 refine(h0.at_ s).go λv H2 s2 q=>?_;obtain⟨p,us,rfl,hp,ha⟩:=q;refine⟨p,J,⟨us,hp⟩,λD hD=>?_⟩;have k2:=k.at_ s2;have kx:bW C (RL K R) H2 _ (λ_ _=>i9) E:=⟨λ_ _ _ _ _ _=>cg,k2.no⟩;refine GQ (eX D H2 R f ys) (eX.start hD) (λj Hc _ I=>I.same.seq hp) (λj x Hc hx I=>?_) λHc I=>?_
 ·obtain⟨y,hy,ry⟩:=ha.get hx
  refine⟨hw x,?_⟩;exact eX.step st m hD dG kx hy I<|he Hc x y (s.trans<|s2.trans I.same) (jW hy)<|m' _ _ _ _ I.same ry
 ·rw[ha.bG] at I
  obtain⟨sm,d6,zs,e1,a1,e2⟩:=I;rw[lS] at e2;exact k2.ok Hc _ zs sm e2 ⟨D,d6,J,e1,a1,(s.trans s2).free hD⟩
theorem nt_lcRf{i n:af}(st:tJ R)(m:cV R)(h0:NA C E (aQ (λ_ v j=>v= .int j) cq) (L (n,())) σ H ta)(dG:n<=bH)
 (hw:∀v,c8 ((c8 σ vs).set i<|L v) vs=c8 σ vs) (he:∀U j,az H U->j<n->NT C E R (f j) ((c8 σ vs).set i (L<|.int j)) U te):
 NT C E (jF H R) (ba f<|il n) σ H<|mE (GG ta) (eE i) oU te vs:=λU Q s k=>by
 refine h0 U _ s ⟨λH2 us y s2 e q=>?_,λH2 s2 e=>nomatch e⟩
 cases e
 obtain⟨v,r,rfl,e1,e2⟩:=q;subst e1;subst e2;have hz:bH<2^62:=by decide
 refine⟨n,J,om,om,λD hD=>?_⟩;have k2:=k.at_ s2;have kx:bW C (RL [] R) H2 _ (λ_ _=>i9) E:=⟨λ_ _ _ _ _ _=>cg,k2.no⟩;rw[kl];refine GR (eX D H2 R f<|il n) (eX.start hD) (λj Hc hj I=>?_) λHc I=>?_
 ·refine⟨hw _,?_⟩
  rw[vE];exact eX.step st m hD (by rw[vH];exact dG) kx (by simp[hj]) I<|he Hc j (s.trans<|s2.trans I.same) hj
 ·have I':eX D H2 R f (il n) (il n).length Hc:=by rw[vH];exact I
  obtain⟨sm,d6,zs,e1,a1,e2⟩:=I';rw[lS] at e2;exact k2.ok Hc _ zs sm e2 ⟨D,d6,J,e1,a1,(s.trans s2).free hD⟩
end
theorem Qg(hk:bS k):bf k 0=(0,0)/\cQ k 0:=⟨by rcases hk with rfl|rfl<;>decide,(Bw.Ud hk).fits⟩
section
variable{P:cN}{w:World}{K:aq}{mg:ax->aw aE}{base:b9}{M CK CB CS:ak}
theorem nt_modN(hb:0<b)(h1:NT M E fC (L a) σ H t1)(h2:NT M E fC (L b) σ H t2):NT M E fC (L<|a%b) σ H<|bY (rI (λ_ j=>0<j) λi j=>.int<|i%j) t1 t2:=λU Q s k=>by
 refine(h1.at_ s).go λv H2 s2 q=>(h2.at_<|s.trans s2).go λu H3 s3 q3=>?_;exact⟨a,b,q,q3,om,k.ok _ _ _ (s2.trans s3) J<|by congr 1⟩
theorem SS(T:i' K mg M CK)(h:NT M E (RK CK k) (L ()) σ H te):NT M E fC (L k.lanes) σ H<|cZ K te "lanes":=gw h λ_ _⟨_,a,dx,e,q⟩=>⟨a,CK,dx,_,_,e,q,T.cl,T.Sx,kf_lanes k,J⟩
abbrev zB(K:aq)(M CK fT:ak)(k:aB)(Rp:bO β)(t:af->β->aw af):Sp:=c7 M (rj (aQ (RK CK k) (aQ (RL K Rp)<|aQ (RF fT) cq)) λx=>x.2.1.length<=8192) (RC K k) λx=>dC k t x.2.1
theorem Bs:bE ["kind","parts","take_in","lanes","k","part","j"] ["kind","parts","take_in"] (bw<|aN 73):=fs
theorem Tg{β:Type}{f f1 fT:ak}{fd bZ tV:cX}{pT:ag ax}(F:bz K "side_by_side" "side_by_side" (aN 73) f fd)(TC:jq mg)(aJ:KM P w K mg base M CK)(G1:Gf K mg "folded" (aN 72) f1 bZ ["kind","lanes"])(k:aB){Rp:bO β}(mp:kR Rp)(t:af->β->aw af)
 (OT:aD P w K mg base (aO P w M) 10 fT tV pT<|c7 M (aQ (RK CK k) (aQ (RC K k)<|aQ Rp cq)) (RC K k) λx=>t x.2.1 x.2.2.1) (kT:jn K (.ref fT)=ao) (bT:Binds K tV pT []):aD P w K mg base (aO P w M) 18 f fd ["kind","parts","take_in"]<|zB K M CK fT k Rp t:=by
 obtain⟨za,zm,zq⟩:=aJ.T.pz;have OF:=λn hn=>ok_folded (P:=P) (w:=w) (base:=base) G1.F TC aJ k n hn;refine F.oc Bs λH Q E hr h=>?_;obtain⟨⟨_,ps,_,_⟩,⟨⟨w1,r1,rfl,h1,w2,r2,rfl,h2,w3,r3,rfl,h3,rfl⟩,dG⟩,kk⟩:=h;have h3:w3= .ref fT:=h3;subst h3;have dG:ps.length<=8192:=dG;have hk:=h1.1;obtain⟨lp,l0,l16⟩:=Bw.wH hk;have wA:mT k.lanes<=4:=by rcases hk with rfl|rfl<;>decide
 refine⟨_,aG (Bj (i:=3) (own:=[("j",6)]) J J J jM J Bs.nd J J (BF J J J J) (zg J TC.range<|bu (bh<|O 0)) bk (λ_ _ _ _ _=>ej 6 Bs.nd) (λ_ _ _ _ _=>jh) λ_ _ _ _ _=>dF J zm (v:=.ref za) J)
  (aG (nW mr J (Mm J TC.Kx (bu<|O 1)) (Bh J (pR (ej 4 Bs.nd)<|pR (ej 5 Bs.nd) Bi))
    (aG (bA 6 Bs.nd<|bL HA (O 4) (bh<|O 0))
    (aR<|zi (ze (O 2) OT (hr.aV dc) kT bT aA (bF (O 0) (dY j9 (O 3) (O 6) λ_ _=>J)<|O 5))<|zf (O 3) (O 6) zx)))
  (aR (bg<|cJ (OF (mT k.lanes) wA) (hr.aV dc) J G1.m G1.F.kp G1.b .nil aA (bJ (O 0)<|O 3)))),?_⟩
 have v0:∀{σ:L2.St}{Hc:Hp},σ[0]? =L (L w1)->az H Hc->NT M E (RK CK k) (L ()) σ Hc (au 0):=λe s=>aj e aM<|aM.up s h1;have nLn:NT M E (λ_ v(j:ae)=>v=V.int j) (L ((k.lanes:af):ae)) [L w1,L w2,L<|.ref fT,ah,ah,ah,ah] H<|cZ K (au 0) "lanes":=(SS aJ.T<|v0 J sr).conv λ_ _ h=>h;have n0:=nt_lcRf (R:=RC K k) (C:=M) (E:=E) (H:=H) (i:=6) (n:=k.lanes) (vs:=[6]) (ta:=aU (cZ K (au 0) "lanes") b8) (te:=tC<|.ref za) (f:=λ_=>L 0) du.i.mD aI
  (aF (λ_ _ _ _ _ h=>h) nLn bQ) (dJ l16 dc) (λ_=>J) λU j s1 _=>iH aI ⟨by rw[(Qg hk).1];exact⟨za,J,zq U⟩,(Qg hk).2⟩
 have n0:=n0.eq (show _=L (zR k.lanes 0) by rw[Bw.lN (f:=λ_=>0),show(λ(_:af)=>(0:af))=Function.const af 0 from J,List.map_const,vH]);refine jP n0 λv3 U s1⟨cM,lv,e,eL,aL,hL⟩=>?_;subst e;obtain⟨pP,O,rfl,hpP,aP⟩:=h2;refine⟨_,J,pP,O,J,s1.seq hpP,?_⟩;have kk:bW M (RC K k) H (((dW (gI 0 k.lanes t) (zR k.lanes 0,0) ps).map λs=>s.1).bind λs=>(jK (eU k) (mT k.lanes) s).map λr=>r.headD 0) Q E:=kk;refine KL (K:=K) (xs:=O) (λj aS H'=>∃(x4 x5 x6:aw V)(lv:ag V)(ls:ag af),aS=[L w1,L<|.ref pP,L<|.ref fT,L<|.ref cM,x4,x5,x6]/\az H H'/\H' cM=L (.lst lv)/\cf (RC K k H') lv ls/\dW (gI 0 k.lanes t) (zR k.lanes 0,0) (ps.take j)=L (ls,j)/\ls.length=k.lanes)
  ⟨ah,ah,ah,lv,_,J,s1,eL,aL,by rw[mP];rfl,by simp⟩ (λj aS H' _⟨_,_,_,_,_,_,sm,_⟩=>sm.seq hpP) (λj x T aS H' hx I hT=>?_) λaS H' I=>?_
 ·obtain⟨x4,x5,x6,lv,ls,rfl,sm,eL,aL,ef,AK⟩:=I
  obtain⟨y,hy,ry⟩:=aP.get hx;have sT:az H' (aC H' T<|.tup [.int (j:af),x]):=az.new hT;have kM:=sm.trans sT;refine Az bp ?_;have hm:j%k.lanes<k.lanes:=qZ _ l0;have nm:=nt_modN (M:=M) (E:=E) (σ:=[L w1,L<|.ref pP,L<|.ref fT,L<|.ref cM,L<|.int (j:af),L x,x6]) (H:=aC H' T<|.tup [.int (j:af),x]) (a:=j) (b:=k.lanes) l0 (aj (i:=4) J ib J) (SS aJ.T<|v0 J kM);refine jP nm λvj H2 s2 qj=>?_;have qj:vj= .int ((j%k.lanes:af):ae):=qj;subst qj;have dN:=kM.trans s2;have C2:=(sT.trans s2) _ _ eL;have Pz:=aL.imp λv x=>aI _ _ _ _<|sT.trans s2;have gl:ls[j%k.lanes]? =L (ls.getD (j%k.lanes) 0):=by simp[mM,AK,hm]
  have nl:NT M E (RC K k) (L<|ls.getD (j%k.lanes) 0) [L w1,L<|.ref pP,L<|.ref fT,L<|.ref cM,L<|.int (j:af),L x,L<|.int ((j%k.lanes:af):ae)] H2 (bY (lL K) (au 3)<|au 6):=qB aI (aj (i:=3) J (cw aI) ⟨cM,lv,J,SqL.of C2,Pz⟩) (aj (i:=6) J ib J) gl;have nt':NT M E (RC K k) (t (ls.getD (j%k.lanes) 0) y) _ H2 _:=SN (fD:=fT) (t:=L ((),ls.getD (j%k.lanes) 0,y,())) (f:=λx=>t x.2.1 x.2.2.1) (aj (i:=2) J kH J)<|aF aM (v0 J dN) (aF aI nl<|aF mp.m (aj (i:=5) J mp.m<|mp.m _ _ _ _ dN ry) bQ);have wj:∀z,t (ls.getD (j%k.lanes) 0) y=z->gI 0 k.lanes t (ls,j) y=z.map λu=>(ls.set (j%k.lanes) u,j+1):=λz e=>by unfold gI;show(t (ls.getD (j%k.lanes) 0) y).map _=_;rw[e]
  refine nt' H2 _ sr ⟨λH3 u z s3 ez qz=>?_,λH3 s3 ez=>kk.no H3 (dN.trans s3) (by rw[Bw.QF hy ef (by rw[wj ah ez];rfl)];rfl)⟩;have tU:=s3 _ _ C2;have yJ:kE lv.length ((j%k.lanes:af):ae)=L (j%k.lanes):=by unfold kE;have:=aL.bG;rw[aH om,aH om,kl]
  refine⟨_,J,_,J,cM,lv,_,_,J,J,tU,yJ,?_⟩;have t3:cp H3<|aC H3 cM (.lst<|lv.set (j%k.lanes) u):=cp.aC (by rw[tU];trivial);refine⟨L<|.int (j:af),L x,L<|.int ((j%k.lanes:af):ae),lv.set (j%k.lanes) u,ls.set (j%k.lanes) z,J,λb o e=>?_,bp,(Pz.imp λv x q=>du _ _ _ _ (s3.i.1.trans t3) q).set _<|du.up t3 qz,?_,by rw[o9];exact AK⟩
  ·rw[bI<|dv e hL];exact s3 _ _<|dN _ _ e
  ·rw[Bw.KI hy ef,wj (L z) ez];rfl
 ·obtain⟨x4,x5,x6,lv,ls,rfl,sm,eL,aL,ef,AK⟩:=I
  rw[aP.bG,lS] at ef;have kk:bW M (RC K k) H ((jK (eU k) (mT k.lanes) ls).map λr=>r.headD 0) Q E:=kk.eq (by rw[ef];rfl);exact kk.gQ sm (cP (σ:=[L w1,L<|.ref pP,L<|.ref fT,L<|.ref cM,x4,x5,x6]) (t:=L ((),ls,())) (f:=λx=>(jK (eU k) (mT k.lanes) x.2.1).map λr=>r.headD 0) (aF aM (v0 J sm)<|aF Sj (aj (i:=3) J Sj ⟨⟨cM,lv,J,SqL.of eL,aL⟩,by rw[AK];exact lp⟩) bQ))
end
end BW
namespace BW
open PySem PySem.Spec PyProof.Rows L2
open Bw (bS cQ bf cn ba dW gI j' dC e_ iN)
section
variable{P:cN}{w:World}{K:aq}{mg:ax->aw aE}{base:b9}{M CK CB CS:ak}
def ja(k:aB)(ps:ag dP):aw<|ag af:=ba (λj=>dC k (eU k) (ps.map λp=>p.list.getD j 0))<|il 3
abbrev IF(K:aq)(M CK:ak)(k:aB):Sp:=c7 M (rj (aQ (RK CK k)<|aQ (RL K<|R3 K k) cq) λx=>x.2.1.length<=8192) (fI<|RC K k) λx=>ja k x.2.1
theorem Ew:bE ["kind","threes","k","three"] ["kind","threes"] (bw<|aN 74):=fs
theorem RU(p:dP)(h:j<3):p.list[j]? =L (p.list.getD j 0):=by
 have:p.list.length=3:=J;simp[mM,this,h]
theorem ok_sumThrees(F:bz K "sum_of_threes" "sum_of_threes" (aN 74) f fd)(TC:jq mg)(GW:Gf K mg "with_number_added" (aN 70) fW Av ["kind","s","x"])(A1:cU P w K mg base M 18 "side_by_side" ["kind","parts","take_in"] λk=>zB K M CK fW k (RC K k)<|eU k)(k:aB):aD P w K mg base (aO P w M) 20 f fd ["kind","threes"]<|IF K M CK k:=by
 obtain⟨f1,bZ,m1,k1,b1,O1⟩:=A1;have mW:=GW.m;refine F.oc Ew λH Q E hr h=>?_;obtain⟨⟨_,ps,_⟩,⟨⟨w1,r1,rfl,h1,w2,r2,rfl,h2,rfl⟩,dG⟩,kk⟩:=h;have hz:ps.length<=bH:=dJ dG dc
 refine⟨_,aR (bg (oH (own:=[("k",2)]) (te:=d8 _ [] E (aU (au 0)<|aU (mE (yH K<|au 1) (eE 3) oU (bY (dI K) (au 3)<|au 2) [3]) _)) J J J jM J Ew.nd (zg J TC.range<|bu a_) bk (λ_ _ _ _ _=>ej 2 Ew.nd) (λ_ _ _ _ _=>jh)
  (λ_ _ _ _ _=>cJ (O1 k) (hr.aV dc) J m1 k1 b1 .nil jO (bF (O 0) (Tu (own:=[("three",3)]) J Ew.nd (jf<|O 1) bk (λ_ _ _ _ _=>ej 3 Ew.nd) (λ_ _ _ _ _=>jh) λ_ _ _ _ _=>dY uj (O 3) (O 2) λ_ _=>J)<|dF J mW (v:=.ref fW) J)))),?_⟩
 refine kk.by (nt_lcRs (C:=M) (E:=E) (H:=H) (i:=2) (n:=3) (vs:=[2]) du.i.mD aI (aF (λ_ _ _ _ _ h=>h) (iH (λ_ _ _ _ _ h=>h) J) bQ) dc (λ_=>J) λU j s1 hj=>?_);have ni:NT M E _ _ ((c8 [L w1,L w2,ah,ah] [2]).set 2 _) U<|mE _ (eE 3) oU _ [3]:=(w8 du.i.mD aI bR (aj (i:=1) J (cw bR)<|cw bR _ _ _ _ s1 h2) hz (λ_=>J) λH2 v p s2 _ rp=>DZ aI ((aj (i:=3) (y:=p) J bR rp).conv λ_ _=>pW) (aj (i:=2) J ib J)<|RU p hj).eq<|Bw.lN _
 exact cP (t:=L ((),ps.map λp=>p.list.getD j 0,(),())) (f:=λx=>dC k (eU k) x.2.1)<|nT (c:=λx=>x.2.1.length<=8192) (aF aM (aj (i:=0) J aM<|aM.up s1 h1) (aF (cw aI) ni<|aF kH (iH kH J) bQ)) λy e=>by cases e;rw[hJ];exact dG
theorem scSZ:bE ["kind","body"] ["kind","body"] (bw<|aN 75):=fs
theorem ok_spinZero(F:bz K "spin_about_zero" "spin_about_zero" (aN 75) f fd)(B:BM P w K mg base M CK CB)(k:aB):aD P w K mg base (aO P w M) 12 f fd ["kind","body"] (By K M CK CB k<|iN k):=by
 have TB:=B.TB;refine F.oc scSZ λH Q E hr h=>?_;obtain⟨⟨_,b,_⟩,⟨w1,r1,rfl,h1,w2,r2,rfl,h2,rfl⟩,kk⟩:=h;refine⟨_,aR (bg (B.V.add.c k hr aA<|bF (O 0) (B.V.moment.c k hr aA (bF (O 0) (bh<|O 1) (bh<|O 1))) (bh<|O 1))),?_⟩;have v0:NT M E _ _ [L w1,L w2] H<|au 0:=aj J aM h1;have v1:NT M E _ _ [L w1,L w2] H<|au 1:=aj J cu h2;exact kk.by<|kJ (g:=iR k) v0 (kJ (g:=rD k) v0 (yU TB v1)<|uz TB v1)<|A9 TB v1
abbrev II(K:aq)(M CK CB:ak)(k:aB)(g:ag ff->aw (ag af)):Sp:=c7 M (aQ (RK CK k)<|aQ (vP K CB k) cq) (fI<|RC K k) λx=>g x.2.1
theorem MW:bE ["kind","bodies","body"] ["kind","bodies"] (bw<|aN 76):=fs
theorem MX:bE ["kind","bodies","body"] ["kind","bodies"] (bw<|aN 77):=fs
theorem ok_wholeMo(F:bz K "whole_momentum" "whole_momentum" (aN 76) f fd)(TB:iM K mg CB)(A1:cU P w K mg base M 20 "sum_of_threes" ["kind","threes"] λk=>IF K M CK k)(k:aB):aD P w K mg base (aO P w M) 24 f fd ["kind","bodies"] (II K M CK CB k λbs=>ja k (bs.map (·.momentum))):=by
 refine F.oc MW λH Q E hr h=>?_;obtain⟨⟨_,bs,_⟩,⟨w1,r1,rfl,h1,w2,r2,rfl,h2,rfl⟩,kk⟩:=h;refine⟨_,aR<|bg (A1.c k hr aA<|bJ (O 0) (oH (own:=[("body",2)]) (te:=cZ K _ "momentum") J J J jM J MW.nd (jf<|O 1) bk (λ_ _ _ _ _=>ej 2 MW.nd) (λ_ _ _ _ _=>jh) λ_ _ _ _ _=>bh<|O 2)),?_⟩;have ni:NT M E _ _ [L w1,L w2,ah] H _:=(w8 (i:=2) (vs:=[2]) cO.i.mD bR cu (aj (i:=1) J (cw cu) h2.1) (dJ h2.2 dc) (λ_=>J) λU v y s _ r=>uz TB<|aj (i:=2) J cu r).eq<|Bw.lN _;exact kk.by<|cP (f:=λx=>ja k x.2.1) (nT (c:=λx=>x.2.1.length<=8192) (aF aM (aj (i:=0) J aM h1)<|aF (cw bR) ni bQ) λy e=>by cases e;rw[hJ];exact dJ h2.2 dc)
theorem ok_wholeSp(F:bz K "whole_spin" "whole_spin" (aN 77) f fd)(A1:cU P w K mg base M 20 "sum_of_threes" ["kind","threes"] λk=>IF K M CK k)(A2:cU P w K mg base M 12 "spin_about_zero" ["kind","body"] λk=>By K M CK CB k<|iN k)(k:aB):aD P w K mg base (aO P w M) 24 f fd ["kind","bodies"] (II K M CK CB k λbs=>(ba (iN k) bs).bind<|ja k):=by
 obtain⟨f2,dg,m2,k2,b2,O2⟩:=A2;refine F.oc MX λH Q E hr h=>?_;obtain⟨⟨_,bs,_⟩,⟨w1,r1,rfl,h1,w2,r2,rfl,h2,rfl⟩,kk⟩:=h;refine⟨_,aR<|bg (A1.c k hr aA<|bJ (O 0) (oH (own:=[("body",2)]) J J J jM J MX.nd (jf<|O 1) bk (λ_ _ _ _ _=>ej 2 MX.nd) (λ_ _ _ _ _=>jh) λ_ _ _ _ _=>cJ (O2 k) (hr.aV dc) J m2 k2 b2 .nil jO (bJ (O 0)<|O 2))),?_⟩;have ni:NT M E _ _ [L w1,L w2,ah] H _:=w8 (i:=2) (vs:=[2]) (R:=R3 K k) (f:=iN k) cO.i.mD bR cu (aj (i:=1) J (cw cu) h2.1) (dJ h2.2 dc) (λ_=>J) λU v y s _ r=>cP (t:=L ((),y,())) (f:=λx=>iN k x.2.1)<|aF aM (aj (i:=0) J aM<|aM.up s h1)<|aF cu (aj (i:=2) J cu r) bQ
 have nc:=cP (R:=fI<|RC K k) (f:=λx=>ja k x.2.1) (nT (c:=λx=>x.2.1.length<=8192) (aF aM (aj (i:=0) J aM h1)<|aF (cw bR) ni bQ) λy e=>by
  cases ea:ba (iN k) bs with
  |none=>rw[ea] at e;cases e
  |some l=>rw[ea] at e;cases e;rw[Bw.iI ea];exact dJ h2.2 dc)
 exact kk.by<|nc.eq (by show _=(ba (iN k) bs).bind (ja k);cases ba (iN k) bs<;>rfl)
end
end BW
namespace BW
open PySem PySem.Spec PyProof.Rows L2
open Bw (bS cQ bf cn iu ba dW dC e_ iN)
section
variable{K:aq}{M:ak}{E:XK}{σ:L2.St}{H:Hp}{t1 t2:TE}{k:aB}
theorem Sb:lT<|RN K k:=λ_ _ _ _ s⟨p,h,r⟩=>⟨p,Se.up s h,r⟩
theorem DH:lT<|jo K k:=λ_ _ _ _ s⟨a,x,y,e,h,h1,h2⟩=>⟨a,x,y,e,s.tup h,Sb.up s h1,Sb.up s h2⟩
theorem L_(h1:NT M E (RN K k) r σ H t1)(h2:NT M E (RN K k) s σ H t2):NT M E (jo K k) (r.bind λa=>s.map λb=>(a,b)) σ H<|kN (aU t1<|aU t2 b8):=NT.eq (y' (f:=λx=>L (x.1,x.2.1)) (aF eK h1<|aF eK h2 bQ) (λ_ _ _⟨v,r,e,_,v2,r2,e2,_,e3⟩=>by subst e e2 e3;show 2<=bH;decide)
  (λ_ _ y p⟨v,r,e,q1,v2,r2,e2,q2,e3⟩hp=>by subst e e2 e3;exact⟨_,J,p,v,v2,J,cD.of hp,q1,q2⟩) (mq eK<|mq eK yR))<|by cases r<;>cases s<;>rfl
end
theorem PU{R':bO β}{rb:aw β}{f:β->aw α}(k:bW C R Hb (rb.bind f) Q E)(sb:az Hb Hc)(h:NT C E R' rb σ Hc te)
 (hq:∀y v U,az Hc U->rb=L y->R' U v y->bW C R Hb (f y) Q E->u D (σ.set i<|L v) U):oS (jU te<|eE i) u D σ Hc:=k.bindB sb h hq
section
variable{P:cN}{w:World}{K:aq}{mg:ax->aw aE}{base:b9}{M CK CB CS CN CP:ak}
abbrev Iy(K:aq)(M CK CB:ak)(k:aB)(g:ag ff->aw af):Sp:=c7 M (aQ (RK CK k)<|aQ (vP K CB k) cq) (RC K k) λx=>g x.2.1
theorem M_:bE ["kind","bodies","pairs","body"] ["kind","bodies"] (bw<|aN 78):=fs
theorem ok_enW{f fW:ak}{fd Av:cX}(F:bz K "energy_of_ways" "energy_of_ways" (aN 78) f fd)(B:BM P w K mg base M CK CB)(hH:∃a,mg "HALF"=L (.ref a)/\ ∀H,cD K H a [.int 1,.int (-1)])(GW:Gf K mg "with_product_added" (aN 71) fW Av ["kind","s","pair"])(A3:cU P w K mg base M 18 "side_by_side" ["kind","parts","take_in"] λk=>zB K M CK fW k (jo K k)<|e_ k)(k:aB):aD P w K mg base (aO P w M) 20 f fd ["kind","bodies"] (Iy K M CK CB k λbs=>(ba (Bw.wg k) bs).bind (dC k<|e_ k)):=by
 obtain⟨f1,bZ,M1,b1,O1⟩:=B.V.aJ.mul;obtain⟨f2,dg,m2,k2,b2,O2⟩:=B.V.dot;obtain⟨kC,hHm,hHq⟩:=hH;have mW:=GW.m;have TB:=B.TB;refine F.oc M_ λH Q E hr h=>?_;obtain⟨⟨_,bs,_⟩,⟨w1,r1,rfl,h1,w2,r2,rfl,h2,rfl⟩,kk⟩:=h;have hk:=h1.1
 refine⟨_,aG (Bj (i:=2) (own:=[("body",3)]) (te:=kN<|aU (tC<|.ref kC)<|aU (eu CK "times" _ [] E (au 0) (aU (cZ K (au 3) "by_weight")<|aU (d8 _ [] E<|aU (au 0) (aU (cZ K (au 3) "momentum")<|aU (cZ K (au 3) "momentum") b8)) b8)) b8) J J J jM J M_.nd J J (BF J J J J) (jf<|O 1) bk (λ_ _ _ _ _=>ej 3 M_.nd) (λ_ _ _ _ _=>jh) λ_ _ _ _ _=>fO<|bJ (dF J hHm (v:=.ref kC) J) (bV (O 0) B.V.aJ.T.cl M1 (O1 k) (hr.aV dc) b1 .nil jO (bJ (bh<|O 3)<|cJ (O2 k) (hr.aV dc) J m2 k2 b2 .nil jO (bF (O 0) (bh<|O 3) (bh<|O 3)))))
  (aR (bg<|A3.c k hr aA (bF (O 0) (O 2)<|dF J mW (v:=.ref fW) J))),?_⟩
 have ni:=w8 (i:=3) (vs:=[3]) (R:=jo K k) (R':=ck K CB k) (f:=Bw.wg k) DH.i.mD gD cu (aj (i:=1) J (cw cu) h2.1) (dJ h2.2 dc) (λ_=>J) λU v y s _ r=>by
  have v0:NT M E (RK CK k) (L ()) ((c8 [L w1,L w2,ah,ah] [3]).set 3<|L v) U<|au 0:=aj J aM<|aM.up s h1;have v3:NT M E (ck K CB k) (L y) ((c8 [L w1,L w2,ah,ah] [3]).set 3<|L v) U<|au 3:=aj J cu r;have nh:NT M E (RN K k) (L<|lr k) ((c8 [L w1,L w2,ah,ah] [3]).set 3<|L v) U (tC<|.ref kC):=iH eK ⟨(1,-1),⟨kC,J,hHq U⟩,Bw.HJ hk⟩;have nd:=Hl (g:=lX k) (r:=L y.momentum) (s:=L y.momentum) v0 (uz TB v3)<|uz TB v3;have nm:=pM (g:=ir k) (r:=L y.inverse) uw v0 ((L5 TB v3).cW λ_ _ _=>dS hk) (nd.cW λ_ _ _=>dS hk);exact(L_ nh (nm.cW λ_ _ _=>dS hk)).eq J
 refine PU kk sr ni λl u U s1 el q1 kk=>?_;exact kk.gQ s1 (cP (t:=L ((),l,(),())) (f:=λx=>dC k (e_ k) x.2.1)<|nT (aF aM (aj (i:=0) J aM<|aM.up s1 h1) (aF (cw gD) (aj (i:=2) J (cw gD) q1)<|aF kH (iH kH J) bQ)) λy e=>by cases e;show l.length<=8192;rw[Bw.iI el];exact dJ h2.2 dc)
theorem M':bE ["kind","bodies","pairs","body"] ["kind","bodies"] (bw<|aN 79):=fs
theorem ok_enT{f fW:ak}{fd Av:cX}(F:bz K "energy_of_turning" "energy_of_turning" (aN 79) f fd)(B:BM P w K mg base M CK CB)(hH:∃a,mg "HALF"=L (.ref a)/\ ∀H,cD K H a [.int 1,.int (-1)])(GW:Gf K mg "with_product_added" (aN 71) fW Av ["kind","s","pair"])(A3:cU P w K mg base M 18 "side_by_side" ["kind","parts","take_in"] λk=>zB K M CK fW k (jo K k)<|e_ k)(k:aB):aD P w K mg base (aO P w M) 20 f fd ["kind","bodies"] (Iy K M CK CB k λbs=>(ba (Bw.wc k) bs).bind (dC k<|e_ k)):=by
 obtain⟨f1,bZ,m1,k1,b1,O1⟩:=B.ht;obtain⟨f2,dg,m2,k2,b2,O2⟩:=B.V.dot;obtain⟨kC,hHm,hHq⟩:=hH;have mW:=GW.m;have TB:=B.TB;refine F.oc M' λH Q E hr h=>?_;obtain⟨⟨_,bs,_⟩,⟨w1,r1,rfl,h1,w2,r2,rfl,h2,rfl⟩,kk⟩:=h;have hk:=h1.1
 refine⟨_,aG (Bj (i:=2) (own:=[("body",3)]) (te:=kN<|aU (tC<|.ref kC)<|aU (d8 _ [] E (aU (au 0)<|aU (cZ K (au 3) "spin") _)) b8) J J J jM J M'.nd J J (BF J J J J) (jf<|O 1) bk (λ_ _ _ _ _=>ej 3 M'.nd) (λ_ _ _ _ _=>jh) λ_ _ _ _ _=>fO<|bJ (dF J hHm (v:=.ref kC) J) (cJ (O2 k) (hr.aV dc) J m2 k2 b2 .nil jO (bF (O 0) (bh<|O 3)<|cJ (O1 k) (hr.aV dc) J m1 k1 b1 .nil jO (bJ (O 0)<|O 3))))
  (aR (bg<|A3.c k hr aA (bF (O 0) (O 2)<|dF J mW (v:=.ref fW) J))),?_⟩
 have ni:=w8 (i:=3) (vs:=[3]) (R:=jo K k) (R':=ck K CB k) (f:=Bw.wc k) DH.i.mD gD cu (aj (i:=1) J (cw cu) h2.1) (dJ h2.2 dc) (λ_=>J) λU v y s _ r=>by
  have v0:NT M E (RK CK k) (L ()) ((c8 [L w1,L w2,ah,ah] [3]).set 3<|L v) U<|au 0:=aj J aM<|aM.up s h1;have v3:NT M E (ck K CB k) (L y) ((c8 [L w1,L w2,ah,ah] [3]).set 3<|L v) U<|au 3:=aj J cu r;have nh:NT M E (RN K k) (L<|lr k) ((c8 [L w1,L w2,ah,ah] [3]).set 3<|L v) U (tC<|.ref kC):=iH eK ⟨(1,-1),⟨kC,J,hHq U⟩,Bw.HJ hk⟩;have L0:NT M E (R3 K k) (pw k y) _ U _:=cP (t:=L ((),y,())) (f:=λx=>pw k x.2.1) (aF aM v0<|aF cu v3 bQ);have nd:=Hl (g:=lX k) (r:=L y.spin) v0 (A9 TB v3) L0;exact(L_ nh (nd.cW λ_ _ _=>dS hk)).eq J
 refine PU kk sr ni λl u U s1 el q1 kk=>?_;exact kk.gQ s1 (cP (t:=L ((),l,(),())) (f:=λx=>dC k (e_ k) x.2.1)<|nT (aF aM (aj (i:=0) J aM<|aM.up s1 h1) (aF (cw gD) (aj (i:=2) J (cw gD) q1)<|aF kH (iH kH J) bQ)) λy e=>by cases e;rw[Bw.iI el];exact dJ h2.2 dc)
def Gd(k:aB)(x:j1×ag ff×ag j0×j1):aw af:=((fS k x).bind λsp=>ba (λy=>Bw.k_ k y.1 y.2)<|x.2.2.1.zip sp).bind (dC k<|e_ k)
abbrev Vg(K:aq)(M CK CB CS:ak)(k:aB):Sp:=c7 M (EZ K CK CB CS k) (RC K k)<|Gd k
theorem En:bE ["kind","bodies","springs","pairs","spring","span","x"] ["kind","bodies","springs"] (bw<|aN 80):=fs
theorem ok_enS{f fW:ak}{fd Av:cX}(F:bz K "energy_of_springs" "energy_of_springs" (aN 80) f fd)(TC:jq mg)(B:BM P w K mg base M CK CB)(TS:Tx K mg CS "Spring" oN)(hH:∃a,mg "HALF"=L (.ref a)/\ ∀H,cD K H a [.int 1,.int (-1)])(GW:Gf K mg "with_product_added" (aN 71) fW Av ["kind","s","pair"])
 (A1:cU P w K mg base M 20 "find_spans" ["kind","bodies","springs"] λk=>Iz K M CK CB CS CN CP k) (A2:cU P w K mg base M 20 "stretch" ["kind","spring","span"] λk=>NK K M CK CS CN CP k) (A3:cU P w K mg base M 18 "side_by_side" ["kind","parts","take_in"] λk=>zB K M CK fW k (jo K k)<|e_ k) (k:aB):
 aD P w K mg base (aO P w M) 30 f fd ["kind","bodies","springs"]<|Vg K M CK CB CS k:=by
 obtain⟨f4,hU,M4,b4,O4⟩:=B.V.aJ.mul;obtain⟨kC,hHm,hHq⟩:=hH;have mW:=GW.m;refine F.oc En λH Q E hr h=>?_;obtain⟨⟨_,bs,ss,_⟩,⟨⟨w1,r1,rfl,h1,w2,r2,rfl,h2,w3,r3,rfl,h3,rfl⟩,j8⟩,kk⟩:=h;have hk:=h1.1
 refine⟨_,aG (bA 3 En.nd<|gj uH) (aG (nW mr J (Mo J TC.zip (bJ (O 2)<|A1.c k hr aA (bF (O 0) (O 1)<|O 2))) (Bh J (pR (ej 4 En.nd)<|pR (ej 5 En.nd) Bi))
  (aG (bA 6 En.nd<|A2.c k hr aA (bF (O 0) (O 4)<|O 5))
  (aR<|pU (uJ vM Ce Cf AZ (O 3) (bu (fO<|bJ (bV (O 0) B.V.aJ.T.cl M4 (O4 k) (hr.aV dc) b4 .nil aA<|bJ (dF J hHm (v:=.ref kC) J) (bh<|O 4))<|bV (O 0) B.V.aJ.T.cl M4 (O4 k) (hr.aV dc) b4 .nil aA (bJ (O 6)<|O 6)))))))
  (aR (bg<|A3.c k hr aA (bF (O 0) (O 3)<|dF J mW (v:=.ref fW) J)))),?_⟩
 have AQ:ss.length<=8192:=j8.2.2;refine⟨eI _,λl hl=>?_⟩;have sl:az H (aC H l<|.lst []):=az.new hl;obtain⟨p3,sv,rfl,rV,a3⟩:=id h3;refine⟨_,J,?_⟩;have n1:NT M E (fI<|jG K CN CP k) (fS k ((),bs,ss,())) [L w1,L w2,L<|.ref p3,L<|.ref l,ah,ah,ah] (aC H l<|.lst []) _:=cP (t:=L ((),bs,ss,())) (f:=fS k) (nT (c:=λx=>oo x.2.1.length x.2.2.1/\x.2.1.length<=4096/\x.2.2.1.length<=8192) (aF aM (aj (i:=0) J aM<|aM.up sl h1) (aF (cw cu) (aj (i:=1) J (cw cu)<|cw cu _ _ _ _ sl h2)<|aF (cw eJ.m) (aj (i:=2) J (cw eJ.m)<|cw eJ.m _ _ _ _ sl h3) bQ)) λy e=>by cases e;exact j8);have kk:bW M (RC K k) H (((fS k ((),bs,ss,())).bind λsp=>ba (λy:j0×iu=>Bw.k_ k y.1 y.2)<|ss.zip sp).bind (dC k<|e_ k)) Q E:=kk;refine n1 _ _ sr ⟨λU vn sp s1 F_ q1=>?_,λU s1 e=>kk.no U (sl.trans s1) (by rw[e];rfl)⟩;have fj:sp.length=ss.length:=Bw.iI F_;obtain⟨p5,nv,rfl,AN,a5⟩:=q1;have U4:=sl.trans s1;have Qq:U l=L (.lst []):=s1 _ _ bp;have gR:p5=l->nv=[]:=λz=>by rw[z,Qq] at AN;cases AN;rfl
 refine⟨p3,p5,sv,nv,J,U4.seq rV,SqL.of AN,?_⟩;have kk:bW M (RC K k) H ((ba (λy:j0×iu=>Bw.k_ k y.1 y.2)<|ss.zip sp).bind (dC k<|e_ k)) Q E:=kk.eq (by rw[F_];rfl);refine QJ (K:=K) (xs:=sv) (ys:=nv) (by rw[a3.bG,a5.bG];exact fj.symm) (λj aS H'=>∃(x4 x5 x6:aw V)(d6:ag V)(zs:ag<|af×af),aS=[L w1,L w2,L<|.ref p3,L<|.ref l,x4,x5,x6]/\az H H'/\H' p5=L (.lst nv)/\cf (jG K CN CP k H') nv sp/\H' l=L (.lst d6)/\cf (jo K k H') d6 zs/\ba (λy:j0×iu=>Bw.k_ k y.1 y.2) ((ss.zip sp).take j)=L zs)
  ⟨ah,ah,ah,[],[],J,U4,AN,a5,Qq,cg,by rw[mP];rfl⟩ (λj aS H' _⟨_,_,_,_,_,_,sm,h5,_⟩=>⟨sm.seq rV,SqL.of h5⟩) (λj x y T aS H' hx hy I hT=>?_) λaS H' I=>?_
 ·obtain⟨x4,x5,x6,d6,zs,rfl,sm,h5,a5,eL,aL,ez⟩:=I
  obtain⟨s0,Rg,rs0⟩:=a3.get hx;obtain⟨n0,hn0,rn0⟩:=a5.get hy;have hz:(ss.zip sp)[j]? =L (s0,n0):=by rw[Oz];exact⟨Rg,hn0⟩
  have sT:az H' (aC H' T<|.tup [x,y]):=az.new hT;have kM:=sm.trans sT;refine Az bp ?_;have v0:∀{σ:L2.St}{Hc:Hp},σ[0]? =L (L w1)->az H Hc->NT M E (RK CK k) (L ()) σ Hc (au 0):=λe s=>aj e aM<|aM.up s h1;have C5:Bw.k_ k s0 n0=ah->((ba (λy:j0×iu=>Bw.k_ k y.1 y.2)<|ss.zip sp).bind (dC k<|e_ k))=ah:=λe=>by rw[Bw.Io (f:=λy:j0×iu=>Bw.k_ k y.1 y.2) hz e];rfl
  have wR:NT M E (RC K k) (Bw.kg k s0 n0) [L w1,L w2,L<|.ref p3,L<|.ref l,L x,L y,x6] (aC H' T<|.tup [x,y]) _:=cP (t:=L ((),s0,n0,())) (f:=λx=>Bw.kg k x.2.1 x.2.2.1) (aF aM (v0 J kM) (aF eJ.m (aj (i:=4) J eJ.m<|eJ.m.up kM rs0)<|aF kG.m (aj (i:=5) J kG.m<|kG.m.up sT rn0) bQ));refine wR _ _ sr ⟨λH2 ux xx s2 ex qx=>?_,λH2 s2 e=>kk.no H2 (kM.trans s2)<|C5 (by unfold Bw.k_;rw[e];rfl)⟩;have dN:=kM.trans s2;have nh:NT M E (RN K k) (L<|lr k) [L w1,L w2,L<|.ref p3,L<|.ref l,L x,L y,L ux] H2 (tC<|.ref kC):=iH eK ⟨(1,-1),⟨kC,J,hHq H2⟩,Bw.HJ hk⟩;have nc:=pM (g:=ir k) (r:=L<|lr k) (s:=L s0.stiff) uw (v0 J dN) nh<|(S9 TS (aj (i:=4) J eJ.m<|eJ.m.up dN rs0)).cW λ_ _ _=>dS hk;have nx:NT M E (RN K k) (L xx) [L w1,L w2,L<|.ref p3,L<|.ref l,L x,L y,L ux] H2<|au 6:=(aj (i:=6) J aI qx).cW λ_ _ _=>dS hk;have nt2:=pM (g:=ir k) (r:=L xx) (s:=L xx) uw (v0 J dN) nx nx;have np:=L_ (nc.cW λ_ _ _=>dS hk) (nt2.cW λ_ _ _=>dS hk);have Qo:Bw.k_ k s0 n0=(ir k (lr k) s0.stiff).bind λc=>(ir k xx xx).map λt=>(c,t):=by unfold Bw.k_;rw[ex];rfl
  have C2:=(sT.trans s2) _ _ eL;refine⟨_,J,.inl ⟨J,_,SqL.of C2⟩,?_⟩;refine np H2 _ sr ⟨λH3 u z s3 Ga q3=>?_,λH3 s3 e=>kk.no H3 (dN.trans s3)<|C5 (by rw[Qo];exact e)⟩;have tU:=s3 _ _ C2;have AK:d6.length<=8192:=by rw[aL.bG,Bw.iI ez,km,Fe];omega
  refine⟨l,d6,u,J,J,tU,vJ AK dc,?_⟩;have si:fJ H3<|aC H3 l (.lst<|d6++[u]):=fJ.aC (by rw[tU];trivial);have sA:fJ H'<|aC H3 l (.lst<|d6++[u]):=((sT.trans s2).trans s3).i.trans si;have n5:p5≠l:=λz=>by rw[gR z] at hy;simp at hy
  refine⟨L x,L y,L ux,d6++[u],zs++[z],J,λb o e=>?_,?_,a5.imp λv x=>kG _ _ _ _ sA,bp,(aL.imp λv x=>DH _ _ _ _ sA.1).snoc<|DH _ _ _ _ si.1 q3,?_⟩
  ·rw[bI<|dv e hl];exact s3 _ _<|dN _ _ e
  ·rw[bI n5];exact((sT.trans s2).trans s3) _ _ h5
  ·rw[Bv hz,ez,show Bw.k_ k s0 n0=L z from Qo.trans Ga];rfl
 ·obtain⟨x4,x5,x6,d6,zs,rfl,sm,h5,a5,eL,aL,ez⟩:=I
  have Gb:(ss.zip sp).length=ss.length:=by rw[Fe,fj];exact OJ _
  rw[a3.bG,<-Gb,lS] at ez;have kk:bW M (RC K k) H (dC k (e_ k) zs) Q E:=kk.eq (by rw[ez];rfl);exact kk.gQ sm (cP (σ:=[L w1,L w2,L<|.ref p3,L<|.ref l,x4,x5,x6]) (t:=L ((),zs,(),())) (f:=λx=>dC k (e_ k) x.2.1) (nT (c:=λx=>x.2.1.length<=8192) (aF aM (aj (i:=0) J aM<|aM.up sm h1) (aF (cw gD) (aj (i:=3) J (cw gD) ⟨l,d6,J,SqL.of eL,aL⟩)<|aF kH (iH kH J) bQ)) λy e=>by cases e;show zs.length<=8192;rw[Bw.iI ez,Gb];exact AQ))
end
end BW
namespace BW
open PySem PySem.Spec PyProof.Rows L2
open Bw (bS cQ bf cn iu ba dW dC e_ iN jR)
section
variable{α:Type}{R:bO α}{M:ak}{E:XK}{σ:L2.St}{H:Hp}{t1 t2:TE}
theorem L6(m:cV R)(h1:NT M E (fI R) r σ H t1)(h2:NT M E (fI R) s σ H t2)(hb:∀a b,r=L a->s=L b->a.length+b.length<=bH):NT M E (fI R) (r.bind λa=>s.map λb=>a++b) σ H<|bY Mv t1 t2:=λU Q st k=>by
 refine h1 U _ st ⟨λH2 v a s2 ea q=>h2 H2 _ (st.trans s2) ⟨λH3 u b s3 eb q3=>?_,λH3 s3 e=>k.no H3 (s2.trans s3) (by rw[ea,e];rfl)⟩,λH2 s2 e=>k.no H2 s2 (by rw[e];rfl)⟩;obtain⟨p,vs,rfl,hp,ha⟩:=q;obtain⟨p',us,rfl,Dm,ha'⟩:=q3;refine⟨p,p',vs,us,J,J,s3 _ _ hp,Dm,by rw[ha.bG,ha'.bG];exact hb a b ea eb,λt ht=>?_⟩;have sn:az H3<|aC H3 t (.lst<|vs++us):=az.new ht;exact k.ok _ _ (a++b) ((s2.trans s3).trans sn) (by rw[ea,eb];rfl) ⟨t,_,J,bp,(ha.imp λv x=>m _ _ _ _<|s3.trans sn).append (ha'.imp λv x=>m _ _ _ _ sn)⟩
end
theorem Qw(k:aB)(ps:ag dP):ja k ps=(vS (dC k (eU k) (ps.map (·.x))) (dC k (eU k) (ps.map (·.y))) (dC k (eU k) (ps.map (·.z)))).map oj:=by
 show(dC k _ (ps.map (·.x))).bind (λa=>((dC k _ (ps.map (·.y))).bind λb=>((dC k _ (ps.map (·.z))).bind λc=>(L []).map λl=>c::l).map λl=>b::l).map λl=>a::l)=_
 cases dC k _ (ps.map (·.x)) with
 |none=>rfl
 |some a=>
  cases dC k _ (ps.map (·.y)) with
  |none=>rfl
  |some b=>cases dC k _ (ps.map (·.z))<;>rfl
theorem Kz(h:ja k ps=L l):l.length=3:=Bw.iI h
theorem sums_prog(hk:bS k)(bs:ag ff)(ss:ag j0):Ac k {bodies:=bs,springs:=ss}=((ba (Bw.wg k) bs).bind (dC k<|e_ k)).bind λa=>((ba (Bw.wc k) bs).bind (dC k<|e_ k)).bind λb=>(Gd k ((),bs,ss,())).bind λc=>((eU k a b).bind λd=>eU k d c).bind λe=>
                                                                               ((ja k (bs.map (·.momentum))).bind λm=>((ba (iN k) bs).bind<|ja k).map λl=>m++l).map λml=>ml++[a,b,c,e]:=by
 rw[Bw.sums_eq,Bw.ways_eq hk,Bw.whirls_eq hk,Bw.tensions_eq hk,Bw.momenta_eq hk,Bw.spins_eq hk]
 congr 1;funext a
 congr 1;funext b
 have e1:Gd k ((),bs,ss,())=_:=J
 congr 1;funext c
 congr 1;funext e
 rw[Qw];have e2:(ba (iN k) bs).bind (ja k)=((ba (iN k) bs).bind λl=>vS (dC k (eU k) (l.map (·.x))) (dC k (eU k) (l.map (·.y))) (dC k (eU k) (l.map (·.z)))).map oj:=by
  cases ba _ bs with
  |none=>rfl
  |some l=>exact Qw k l
 rw[e2];simp only[OA];show zW (vS _ _ _) _=JS _ (zW (JS oj (vS (dC k _ (bs.map λb=>b.momentum.x)) (dC k _ (bs.map λb=>b.momentum.y))<|dC k _ (bs.map λb=>b.momentum.z))) _)
 cases vS _ _ _ with
 |none=>rfl
 |some m=>
  cases(ba _ bs).bind λl=>vS _ _ _ with
  |none=>rfl
  |some l=>show L (m.list++(l.list++[a,b,c,e]))=L (m.list++l.list++[a,b,c,e]);rw[JA]
section
variable{P:cN}{w:World}{K:aq}{mg:ax->aw aE}{base:b9}{M CK CB CS CN CP:ak}
abbrev IG(K:aq)(M CK CB CS:ak)(k:aB):Sp:=c7 M (EZ K CK CB CS k) (fI<|RC K k) λx=>Ac k {bodies:=x.2.1,springs:=x.2.2.1}
theorem Ey:bE ["kind","bodies","springs","ways","turning","held","energy"] ["kind","bodies","springs"] (bw<|aN 81):=fs
theorem ok_tenSums{f:ak}{fd:cX}(F:bz K "ten_sums" "ten_sums" (aN 81) f fd)(aJ:KM P w K mg base M CK)
 (A1:cU P w K mg base M 20 "energy_of_ways" ["kind","bodies"] λk=>Iy K M CK CB k λbs=>(ba (Bw.wg k) bs).bind (dC k<|e_ k)) (A2:cU P w K mg base M 20 "energy_of_turning" ["kind","bodies"] λk=>Iy K M CK CB k λbs=>(ba (Bw.wc k) bs).bind (dC k<|e_ k)) (A3:cU P w K mg base M 30 "energy_of_springs" ["kind","bodies","springs"] λk=>Vg K M CK CB CS k)
 (A5:cU P w K mg base M 24 "whole_momentum" ["kind","bodies"] λk=>II K M CK CB k λbs=>ja k (bs.map (·.momentum))) (A6:cU P w K mg base M 24 "whole_spin" ["kind","bodies"] λk=>II K M CK CB k λbs=>(ba (iN k) bs).bind<|ja k) (k:aB):
 aD P w K mg base (aO P w M) 34 f fd ["kind","bodies","springs"]<|IG K M CK CB CS k:=by
 obtain⟨f4,hU,M4,b4,O4⟩:=aJ.add;refine F.oc Ey λH Q E hr h=>?_;obtain⟨⟨_,bs,ss,_⟩,⟨⟨w1,r1,rfl,h1,w2,r2,rfl,h2,w3,r3,rfl,h3,rfl⟩,j8⟩,kk⟩:=h;have hk:=h1.1;have oC:bs.length<=4096:=j8.2.1
 refine⟨_,aG (bA 3 Ey.nd<|A1.c k hr aA (bJ (O 0)<|O 1)) (aG (bA 4 Ey.nd<|A2.c k hr aA (bJ (O 0)<|O 1))
  (aG (bA 5 Ey.nd<|A3.c k hr aA (bF (O 0) (O 1)<|O 2))
  (aG (bA 6 Ey.nd (bV (O 0) aJ.T.cl M4 (O4 k) (hr.aV dc) b4 .nil aA<|bJ (bV (O 0) aJ.T.cl M4 (O4 k) (hr.aV dc) b4 .nil aA (bJ (O 3)<|O 4))<|O 5))
  (aR (bg (bL uE (bL uE (A5.c k hr aA (bJ (O 0)<|O 1))<|A6.c k hr aA (bJ (O 0)<|O 1)) (gj<|dz (O 3) (bF (O 4) (O 5)<|O 6)))))))),?_⟩
 have kk:=kk.eq<|sums_prog hk bs ss;have v0:∀{σ:L2.St}{Hc:Hp},σ[0]? =L (L w1)->az H Hc->NT M E (RK CK k) (L ()) σ Hc (au 0):=λe s=>aj e aM<|aM.up s h1;have v1:∀{σ:L2.St}{Hc:Hp},σ[1]? =L (L w2)->az H Hc->NT M E (vP K CB k) (L bs) σ Hc (au 1):=λe s=>aj e pJ<|pJ.up s ⟨h2,oC⟩;refine bW.bindB kk sr (cP (σ:=[L w1,L w2,L w3,ah,ah,ah,ah]) (t:=L ((),bs,())) (f:=λx=>(ba (Bw.wg k) x.2.1).bind (dC k<|e_ k)) (aF aM (v0 J sr)<|aF pJ (v1 J sr) bQ)) λa ua U s1 _ qa kk=>?_;refine bW.bindB kk s1 (cP (σ:=[L w1,L w2,L w3,L ua,ah,ah,ah]) (t:=L ((),bs,())) (f:=λx=>(ba (Bw.wc k) x.2.1).bind (dC k<|e_ k)) (aF aM (v0 J s1)<|aF pJ (v1 J s1) bQ)) λb ub H2 s2 _ qb kk=>?_;have ji:=s1.trans s2;refine bW.bindB kk ji (cP (t:=L ((),bs,ss,())) (f:=Gd k)<|nT (aF aM (v0 J ji) (aF (cw cu) (aj (i:=1) J (cw cu)<|cw cu _ _ _ _ ji h2)<|aF (cw eJ.m) (aj (i:=2) J (cw eJ.m)<|cw eJ.m _ _ _ _ ji h3) bQ)) λy e=>by cases e;exact j8) λc uc H3 s3 _ qc kk=>?_;have pX:=ji.trans s3;have ne:NT M E (RC K k) ((eU k a b).bind λd=>eU k d c) [L w1,L w2,L w3,L ua,L ub,L uc,ah] H3 _:=(pM (g:=eU k) (r:=eU k a b) (s:=L c) Sy (v0 J pX) ((uy hk (v0 J pX) (aj (i:=3) J aI<|aI _ _ _ _ (s2.trans s3) qa) (aj (i:=4) J aI<|aI.up s3 qb)).cW λ_ _ _=>dS hk) ((aj (i:=5) J aI qc).cW λ_ _ _=>dS hk)).eq J;refine bW.bindB kk pX ne λe ue H4 s4 _ qe kk=>?_;have sG:=pX.trans s4;have n5:NT M E (fI<|RC K k) (ja k (bs.map (·.momentum))) [L w1,L w2,L w3,L ua,L ub,L uc,L ue] H4 _:=cP (t:=L ((),bs,())) (f:=λx=>ja k (x.2.1.map (·.momentum))) (aF aM (v0 J sG)<|aF pJ (v1 J sG) bQ);have n6:NT M E (fI<|RC K k) ((ba (iN k) bs).bind<|ja k) [L w1,L w2,L w3,L ua,L ub,L uc,L ue] H4 _:=cP (t:=L ((),bs,())) (f:=λx=>(ba (iN k) x.2.1).bind<|ja k) (aF aM (v0 J sG)<|aF pJ (v1 J sG) bQ);have l6:∀l,(ba (iN k) bs).bind (ja k)=L l->l.length=3:=λl e=>by
  obtain⟨x,_,e2⟩:=Option.bind_eq_some_iff.mp e;exact Kz e2
 have n56:=L6 aI n5 n6 λa b ea eb=>by rw[Kz ea,l6 b eb];decide
 have n7:NT M E (fI<|RC K k) (L [a,b,c,e]) [L w1,L w2,L w3,L ua,L ub,L uc,L ue] H4<|IS (aU (au 3)<|aU (au 4) (aU (au 5)<|aU (au 6) b8)):=λH5 Q s5 kq=>⟨_,J,_,J,_,J,_,J,by show 4<=bH;decide,λt ht=>kq.ok _ _ _ (az.new ht) J ⟨t,_,J,bp,aI _ _ _ _ ((((s2.trans s3).trans s4).trans s5).trans<|az.new ht) qa,aI _ _ _ _ (((s3.trans s4).trans s5).trans<|az.new ht) qb,aI _ _ _ _ ((s4.trans s5).trans<|az.new ht) qc,aI _ _ _ _ (s5.trans<|az.new ht) qe,cg⟩⟩;refine kk.gQ sG<|(L6 aI n56 n7 λx y ex ey=>?_).eq ?_
 ·cases ey
  obtain⟨m,em,ex⟩:=Option.bind_eq_some_iff.mp ex
  cases el:(ba (iN k) bs).bind (ja k) with
  |none=>rw[el] at ex;cases ex
  |some l=>
   rw[el] at ex
   cases ex
   rw[iL,Kz em,l6 l el];show 3+3+4<=bH;decide
 ·cases(ja k (bs.map (·.momentum))).bind λm=>((ba (iN k) bs).bind<|ja k).map λl=>m++l<;>rfl
end
end BW
namespace L2
theorem cf.RZ{R:V->α->Prop}{f:α->V}:∀{l:ag α},(∀x∈l,R (f x) x)->cf R (l.map f) l
 |[],_=>trivial
 |_::_,h=>⟨h _ ik,cf.RZ λb hb=>h b<|gz _ hb⟩
end L2
namespace BW
open PySem PySem.Spec PyProof.Rows L2
open Bw (bS cQ bf cn ba)
section
variable{P:cN}{w:World}{K:aq}{mg:ax->aw aE}{base:b9}{M CK CB:ak}
def Cj(K:aq)(k:aB):bO<|ag af:=λH v l=>RL K (RC K k) H v l/\l≠[]/\bS k
theorem wL:cV<|Cj K k:=λ_ _ _ _ s h=>⟨cw aI _ _ _ _ s h.1,h.2⟩
abbrev IC(K:aq)(M:ak)(k:aB)(g:ag af->af):Sp:=c7 M (aQ (Cj K k) cq) (RC K k) λx=>L<|g x.1
theorem Il:bE ["numbers","found","x"] ["numbers"] (bw<|aN 50):=fs
theorem ok_least(F:bz K "least" "least" (aN 50) f fd)(G1:Gf K mg "is_below" qH f1 bZ ["x","y"])(k:aB):aD P w K mg base (aO P w M) 10 f fd ["numbers"] (IC K M k λl=>Pn k l):=by
 have O1:aD P w K mg base (aO P w M) 5 f1 bZ _<|oQ K M k:=(w9 G1.F k).gr.aV dc;refine F.oc Il λH Q E hr h=>?_;obtain⟨⟨l,_⟩,⟨w1,r1,rfl,⟨h1,gR,hk⟩,rfl⟩,kk⟩:=h;refine⟨_,aG (bA 1 Il.nd<|dY j9 (O 0) a_ λ_ _=>J) (aG (nW mr J (jf<|O 0) (ej 2 Il.nd)<|aR (dU (iT<|cJ O1 (hr.aV dc) J G1.m G1.F.kp G1.b .nil aA (bJ (O 2)<|O 1)) (aR (bA 1 Il.nd<|O 2)) d5))<|aR (bg<|O 1)),?_⟩;have g0:l[0]? =L (l.headD 0):=by cases l with
  |nil=>exact absurd J gR
  |cons a t=>rfl
 refine jP (qB aI (aj (C:=M) (E:=E) J (cw aI) h1) (iH ib J) g0) λv0 U s1 q0=>?_;obtain⟨p,lv,rfl,hp,ha⟩:=h1;refine⟨_,J,p,J,⟨lv,s1.seq hp⟩,?_⟩;refine Ay (λj aS H'=>∃(x2:aw V)(vf:V)(a:af),aS=[L _,L vf,x2]/\az H H'/\RC K k H' vf a/\a=(l.take j).foldl (λa b=>if jH k b a=ao then b else a) (l.headD 0))
  ⟨ah,v0,_,J,s1,q0,J⟩ (λj aS H' _⟨_,_,_,_,sm,_⟩=>sm.seq hp) (λj x aS H' hx I=>?_) λaS H' I=>?_
 ·obtain⟨x2,vf,a,rfl,sm,ra,ea⟩:=I
  obtain⟨y,hy,ry⟩:=ha.get hx;have nx:NT M E _ _ [L<|.ref p,L vf,L x] H'<|au 2:=(aj J aI<|aI.up sm ry).cW λ_ _ _=>dS hk;have nf:NT M E _ _ [L<|.ref p,L vf,L x] H'<|au 1:=(aj J aI ra).cW λ_ _ _=>dS hk;have wj:(l.take<|j+1).foldl (λa b=>if jH k b a=ao then b else a) (l.headD 0)=if jH k y a=ao then y else a:=by rw[Bw.take_snoc hy,W7,<-ea];rfl
  refine(sy nx nf).go λv H2 s2 q2=>⟨_,q2,?_⟩
  cases c:jH k y a with
  |true=>
   refine pH ⟨_,J,?_⟩;exact⟨L x,x,y,J,sm.trans s2,aI _ _ _ _ (sm.trans s2) ry,by rw[wj,c];rfl⟩
  |false=>
   exact⟨L x,vf,a,J,sm.trans s2,aI.up s2 ra,by rw[wj,c];rfl⟩
 ·obtain⟨x2,vf,a,rfl,sm,ra,ea⟩:=I
  rw[ha.bG,lS] at ea;exact⟨_,J,kk.ok H' _ a sm (by rw[ea];rfl) ra⟩
theorem Ik:bE ["numbers","found","x"] ["numbers"] (bw<|aN 51):=fs
theorem ok_greatest(F:bz K "greatest" "greatest" (aN 51) f fd)(G1:Gf K mg "is_below" qH f1 bZ ["x","y"])(k:aB):aD P w K mg base (aO P w M) 10 f fd ["numbers"] (IC K M k λl=>Pk k l):=by
 have O1:aD P w K mg base (aO P w M) 5 f1 bZ _<|oQ K M k:=(w9 G1.F k).gr.aV dc;refine F.oc Ik λH Q E hr h=>?_;obtain⟨⟨l,_⟩,⟨w1,r1,rfl,⟨h1,gR,hk⟩,rfl⟩,kk⟩:=h;refine⟨_,aG (bA 1 Ik.nd<|dY j9 (O 0) a_ λ_ _=>J) (aG (nW mr J (jf<|O 0) (ej 2 Ik.nd)<|aR (dU (iT<|cJ O1 (hr.aV dc) J G1.m G1.F.kp G1.b .nil aA (bJ (O 1)<|O 2)) (aR (bA 1 Ik.nd<|O 2)) d5))<|aR (bg<|O 1)),?_⟩;have g0:l[0]? =L (l.headD 0):=by cases l with
  |nil=>exact absurd J gR
  |cons a t=>rfl
 refine jP (qB aI (aj (C:=M) (E:=E) J (cw aI) h1) (iH ib J) g0) λv0 U s1 q0=>?_;obtain⟨p,lv,rfl,hp,ha⟩:=h1;refine⟨_,J,p,J,⟨lv,s1.seq hp⟩,?_⟩;refine Ay (λj aS H'=>∃(x2:aw V)(vf:V)(a:af),aS=[L _,L vf,x2]/\az H H'/\RC K k H' vf a/\a=(l.take j).foldl (λa b=>if jH k a b=ao then b else a) (l.headD 0))
  ⟨ah,v0,_,J,s1,q0,J⟩ (λj aS H' _⟨_,_,_,_,sm,_⟩=>sm.seq hp) (λj x aS H' hx I=>?_) λaS H' I=>?_
 ·obtain⟨x2,vf,a,rfl,sm,ra,ea⟩:=I
  obtain⟨y,hy,ry⟩:=ha.get hx;have nx:NT M E _ _ [L<|.ref p,L vf,L x] H'<|au 2:=(aj J aI<|aI.up sm ry).cW λ_ _ _=>dS hk;have nf:NT M E _ _ [L<|.ref p,L vf,L x] H'<|au 1:=(aj J aI ra).cW λ_ _ _=>dS hk;have wj:(l.take<|j+1).foldl (λa b=>if jH k a b=ao then b else a) (l.headD 0)=if jH k a y=ao then y else a:=by rw[Bw.take_snoc hy,W7,<-ea];rfl
  refine(sy nf nx).go λv H2 s2 q2=>⟨_,q2,?_⟩
  cases c:jH k a y with
  |true=>
   refine pH ⟨_,J,?_⟩;exact⟨L x,x,y,J,sm.trans s2,aI _ _ _ _ (sm.trans s2) ry,by rw[wj,c];rfl⟩
  |false=>
   exact⟨L x,vf,a,J,sm.trans s2,aI.up s2 ra,by rw[wj,c];rfl⟩
 ·obtain⟨x2,vf,a,rfl,sm,ra,ea⟩:=I
  rw[ha.bG,lS] at ea;exact⟨_,J,kk.ok H' _ a sm (by rw[ea];rfl) ra⟩
def zy(k:aB)(DE:af)(bs:ag ff):aw<|ag af:=(ba (vQ k DE) bs).map λl=>(l.zipIdx.filter λx=>x.1).map λx=>x.2
theorem slowF_eq(k:aB)(DE:af)(w:rm):Rb49.slow k DE w=zy k DE w.bodies:=by
 unfold Rb49.slow zy;rw[Bw.wJ]
def uK(l:ag c_):ag af:=(l.zipIdx.filter λx=>x.1).map λx=>x.2
theorem Tw(l:ag c_)(b:c_):uK (l++[b])=uK l++(if b=ao then [l.length] else []):=by
 unfold uK;rw[List.zipIdx_append,List.filter_append,B2]
 cases b<;>simp
theorem picks_len(l:ag c_):(uK l).length<=l.length:=by
 unfold uK;rw[hJ];exact dJ (List.length_filter_le _ _)<|by simp
abbrev NJ(K:aq)(M CK CB:ak)(k:aB):Sp:=c7 M (aQ (RK CK k) (aQ (vP K CB k)<|aQ (RC K k) cq)) (fI fC) λx=>zy k x.2.2.1 x.2.1
theorem Ex:bE ["kind","bodies","limit","found","i","body","v"] ["kind","bodies","limit"] (bw<|aN 53):=fs
theorem ok_slow{f f3:ak}{fd fh:cX}(F:bz K "slow_ones" "slow_ones" (aN 53) f fd)(TC:jq mg)(B:BM P w K mg base M CK CB)(G3:Gf K mg "is_below" qH f3 fh ["x","y"])(k:aB):aD P w K mg base (aO P w M) 20 f fd ["kind","bodies","limit"]<|NJ K M CK CB k:=by
 have O3:aD P w K mg base (aO P w M) 5 f3 fh ["x","y"]<|oQ K M k:=(w9 G3.F k).gr.aV dc;refine F.oc Ex λH Q E hr h=>?_;obtain⟨⟨_,bs,j_,_⟩,⟨w1,r1,rfl,h1,w2,r2,rfl,⟨h2,oC⟩,w3,r3,rfl,h3,rfl⟩,kk⟩:=h;have hk:=h1.1;have oC:bs.length<=4096:=oC
 refine⟨_,aG (bA 3 Ex.nd<|gj uH) (aG (nW mr J (Mm J TC.Kx (bu<|O 1)) (Bh J (pR (ej 4 Ex.nd)<|pR (ej 5 Ex.nd) Bi))
  (aG (bA 6 Ex.nd<|B.hf.c k hr aA (bJ (O 0)<|O 5))
  (aR (dU (iT (cJ O3 (hr.aV dc) J G3.m G3.F.kp G3.b .nil aA<|bJ (B.V.dot.c k hr aA (bF (O 0) (O 6)<|O 6))<|O 2)) (aR (pU<|uJ vM Ce Cf AZ (O 3) (bu<|O 4))) d5))))
  (aR (bg<|O 3))),?_⟩
 have kk:bW M (fI fC) H ((ba (vQ k j_) bs).map uK) Q E:=kk;refine⟨eI _,λl hl=>?_⟩;have sl:az H (aC H l<|.lst []):=az.new hl;obtain⟨p,bv,rfl,hp,ha⟩:=h2;refine⟨_,J,p,bv,J,sl.seq hp,?_⟩;refine KL (K:=K) (xs:=bv) (λj aS H'=>∃(x4 x5 x6:aw V)(zs:ag c_),aS=[L w1,L<|.ref p,L w3,L<|.ref l,x4,x5,x6]/\az H H'/\H' l=L (.lst ((uK zs).map λ(n:af)=>V.int (n:ae)))/\ba (vQ k j_) (bs.take j)=L zs)
  ⟨ah,ah,ah,[],J,sl,bp,by rw[mP];rfl⟩ (λj aS H' _⟨_,_,_,_,_,sm,_⟩=>sm.seq hp) (λj x T aS H' hx I hT=>?_) λaS H' I=>?_
 ·obtain⟨x4,x5,x6,zs,rfl,sm,eL,ez⟩:=I
  obtain⟨b,hb,rb⟩:=ha.get hx;have hj:j<bs.length:=(List.getElem?_eq_some_iff.mp hb).1;have lz:zs.length=j:=by rw[Bw.iI ez,km];omega
  have sT:az H' (aC H' T<|.tup [.int (j:af),x]):=az.new hT;have kM:=sm.trans sT;refine Az bp ?_;have v0:∀{σ:L2.St}{Hc:Hp},σ[0]? =L (L w1)->az H Hc->NT M E (RK CK k) (L ()) σ Hc (au 0):=λe s=>aj e aM<|aM.up s h1;have C5:vQ k j_ b=ah->(ba (vQ k j_) bs).map uK=ah:=λe=>by rw[Bw.Io hb e];rfl
  have n1:NT M E (R3 K k) (pk k b) [L w1,L<|.ref p,L w3,L<|.ref l,L<|.int (j:af),L x,x6] (aC H' T<|.tup [.int (j:af),x]) _:=cP (t:=L ((),b,())) (f:=λx=>pk k x.2.1) (aF aM (v0 J kM)<|aF cu (aj (i:=5) J cu<|cu.up kM rb) bQ);refine n1 _ _ sr ⟨λH2 uv v s2 ev qv=>?_,λH2 s2 e=>kk.no H2 (kM.trans s2)<|C5 (by unfold vQ;rw[e];rfl)⟩;have dN:=kM.trans s2;have n2:NT M E (RC K k) (lX k v v) [L w1,L<|.ref p,L w3,L<|.ref l,L<|.int (j:af),L x,L uv] H2 _:=Hl (g:=lX k) (r:=L v) (s:=L v) (v0 J dN) (aj (i:=6) J bR qv)<|aj (i:=6) J bR qv;have n3:NT M E (RN K k) (L j_) [L w1,L<|.ref p,L w3,L<|.ref l,L<|.int (j:af),L x,L uv] H2<|au 2:=(aj (i:=2) J aI<|aI.up dN h3).cW λ_ _ _=>dS hk;have n4:=cP (R:=RB) (f:=λx=>L<|jH k x.1 x.2.1) (aF eK (n2.cW λ_ _ _=>dS hk)<|aF eK n3 bQ);have n4:NT M E RB ((lX k v v).map λn=>jH k n j_) _ H2 _:=n4.eq<|by cases lX k v v<;>rfl
  have Qp:vQ k j_ b=(lX k v v).map λn=>jH k n j_:=by unfold vQ;rw[ev];rfl
  refine n4 H2 _ sr ⟨λH3 vc c s3 ec qc=>⟨_,qc,?_⟩,λH3 s3 e=>kk.no H3 (dN.trans s3) (C5<|Qp.trans e)⟩;have gG:=dN.trans s3;have tU:=((sT.trans s2).trans s3) _ _ eL;have Ga:ba (vQ k j_) (bs.take<|j+1)=L (zs++[c]):=by rw[Bv hb,ez,Qp,ec];rfl
  cases c with
  |true=>
   refine pH ⟨_,J,.inl ⟨J,_,SqL.of tU⟩,_,J,l,_,_,J,J,tU,?_,?_⟩
   ·rw[hJ]
    exact vJ (dJ (picks_len zs) (by omega:zs.length<=4096)) dc
   ·refine⟨L<|.int (j:af),L x,L uv,zs++[ao],J,λq o e=>?_,?_,Ga⟩
    ·rw[bI<|dv e hl];exact gG _ _ e
    ·rw[bp,Tw,aH J,lz,B2]
     rfl
  |false=>
   refine Dt ?_;exact⟨L<|.int (j:af),L x,L uv,zs++[aK],J,gG,by rw[Tw,ay dc,o8];exact tU,Ga⟩
 ·obtain⟨x4,x5,x6,zs,rfl,sm,eL,ez⟩:=I
  rw[ha.bG,lS] at ez;exact⟨_,J,kk.ok H' _ (uK zs) sm (by rw[ez];rfl) ⟨l,_,J,eL,cf.RZ λn _=>J⟩⟩
end
end BW
namespace BW
open PySem PySem.Spec PyProof.Rows L2
open Bw (bS cQ bf cn)
def kS(K:aq)(k:aB):bO dP:=λH v p=>∃a x y z,v= .ref a/\(SqL K H a [x,y,z]\/cD K H a [x,y,z])/\RC K k H x p.x/\RC K k H y p.y/\RC K k H z p.z
section
variable{K:aq}{M CK:ak}{E:XK}{σ:L2.St}{H:Hp}{te t0 t1 t2 t3:TE}{k:aB}
theorem nR:cV<|kS K k:=λ_ _ _ _ s⟨a,x,y,z,e,h,h1,h2,h3⟩=>⟨a,x,y,z,e,h.imp (λq=>s.seq q) λq=>s.tup q,aI.up s h1,aI.up s h2,aI.up s h3⟩
theorem r3s_of(h:R3 K k H v p):kS K k H v p:=let⟨a,x,y,z,e,h,h1,h2,h3⟩:=h;⟨a,x,y,z,e,.inr h,h1,h2,h3⟩
theorem L1(h:NT M E (kS K k) (L p) σ H te):NT M E (RC K k) (L p.x) σ H<|bY (sF K) te (tC<|.int 0):=wZ 0 h λ_ _⟨a,x,y,z,e,r,h1,h2,h3⟩=>⟨a,_,x,e,r,J,h1⟩
theorem L3(h:NT M E (kS K k) (L p) σ H te):NT M E (RC K k) (L p.y) σ H<|bY (sF K) te (tC<|.int 1):=wZ 1 h λ_ _⟨a,x,y,z,e,r,h1,h2,h3⟩=>⟨a,_,y,e,r,J,h2⟩
theorem L4(h:NT M E (kS K k) (L p) σ H te):NT M E (RC K k) (L p.z) σ H<|bY (sF K) te (tC<|.int 2):=wZ 2 h λ_ _⟨a,x,y,z,e,r,h1,h2,h3⟩=>⟨a,_,z,e,r,J,h3⟩
abbrev Nl(K:aq)(M CK:ak)(k:aB)(g:dP->dP->aw dP):Sp:=c7 M (aQ (RK CK k) (aQ (R3 K k)<|aQ (kS K k) cq)) (R3 K k) λx=>g x.2.1 x.2.2.1
abbrev Nm(K:aq)(M CK:ak)(k:aB)(g:dP->af->dP->aw dP):Sp:=c7 M (aQ (RK CK k)<|aQ (kS K k) (aQ (RC K k)<|aQ (R3 K k) cq)) (R3 K k) λx=>g x.2.1 x.2.2.1 x.2.2.2.1
abbrev U'(K:aq)(M CK:ak)(k:aB)(g:tG->dP->aw dP):Sp:=c7 M (aQ (RK CK k) (aQ (R4 K k)<|aQ (kS K k) cq)) (R3 K k) λx=>g x.2.1 x.2.2.1
abbrev spCrS(K:aq)(M CK fD:ak)(k:aB)(g:af->af->af->af->aw af):Sp:=c7 M (aQ (RK CK k)<|aQ (RF fD) (aQ (R3 K k)<|aQ (kS K k) cq)) (R3 K k) λx=>C_ g x.2.2.1 x.2.2.2.1
theorem SQ(h0:NT M E (RK CK k) (L ()) σ H t0)(h1:NT M E (R3 K k) r σ H t1)(h2:NT M E (kS K k) s σ H t2):NT M E (R3 K k) (r.bind λa=>s.bind λb=>g a b) σ H (d8 (Nl K M CK k g) [] E<|aU t0 (aU t1<|aU t2 b8)):=NT.eq (cP<|aF aM h0 (aF bR h1<|aF nR h2 bQ))<|by cases r<;>cases s<;>rfl
theorem nt_g3s13(h0:NT M E (RK CK k) (L ()) σ H t0)(h1:NT M E (kS K k) r σ H t1)(h2:NT M E (RC K k) c σ H t2)(h3:NT M E (R3 K k) s σ H t3):NT M E (R3 K k) (r.bind λa=>c.bind λx=>s.bind λb=>g a x b) σ H<|d8 (Nm K M CK k g) [] E (aU t0<|aU t1 (aU t2<|aU t3 b8)):=NT.eq (cP (aF aM h0<|aF nR h1 (aF aI h2<|aF bR h3 bQ)))<|by cases r<;>cases c<;>cases s<;>rfl
end
section
variable{P:cN}{w:World}{K:aq}{mg:ax->aw aE}{base:b9}{M CK CB:ak}
theorem ok_crossedS(F:bz K "crossed" "crossed" (aN 25) f fd)(k:aB)(g:af->af->af->af->aw af)(OD:aD P w K mg base (aO P w M) 5 fD fdD ["kind","p","q","r","s"]<|EG K M CK k g)(kD:jn K (.ref fD)=ao)(bD:Binds K fdD ["kind","p","q","r","s"] []):aD P w K mg base (aO P w M) 6 f fd ["kind","difference","a","b"]<|spCrS K M CK fD k g:=by
 refine F.oc UO λH Q E hr h=>?_;obtain⟨⟨_,_,p3,p4,_⟩,⟨w1,r1,rfl,h1,w2,r2,rfl,h2,w3,r3,rfl,h3,w4,r4,rfl,h4,rfl⟩,kk⟩:=h
 refine⟨_,aR (bg (fO (dz (ze (O 1) OD hr kD bD aA (dz (O 0) (dz (aX<|O 2) (bF (dY jb (O 3) a_ λ_ _=>J) (aX<|O 2)<|dY jb (O 3) a_ λ_ _=>J))))
  (dz (ze (O 1) OD hr kD bD aA (dz (O 0) (dz (aX<|O 2) (bF (dY jb (O 3) a_ λ_ _=>J) (aX<|O 2)<|dY jb (O 3) a_ λ_ _=>J))))
  (bu<|ze (O 1) OD hr kD bD aA (dz (O 0) (dz (aX<|O 2) (bF (dY jb (O 3) a_ λ_ _=>J) (aX<|O 2)<|dY jb (O 3) a_ λ_ _=>J)))))))),?_⟩
 have v0:NT M E _ _ [L w1,L w2,L w3,L w4] H<|au 0:=aj J aM h1;have v1:NT M E (RF fD) (L ()) [L w1,L w2,L w3,L w4] H<|au 1:=aj J kH h2;have v2:NT M E (R3 K k) (L p3) [L w1,L w2,L w3,L w4] H<|au 2:=aj J bR h3;have v3:NT M E (kS K k) (L p4) [L w1,L w2,L w3,L w4] H<|au 3:=aj J nR h4;exact kk.by (pN (Bb v1 v0 (jd v2) (L4 v3) (je v2)<|L3 v3) (Bb v1 v0 (je v2) (L1 v3) (jc v2)<|L4 v3) (Bb v1 v0 (jc v2) (L3 v3) (jd v2)<|L1 v3))
theorem ok_crossS(F:bz K "cross" "cross" (aN 28) f fd)(aJ:KM P w K mg base M CK)(G1:Gf K mg "crossed" (aN 25) f1 bZ ["kind","difference","a","b"])(G2:Gf K mg "plain_difference" (aN 26) f2 dg ["kind","p","q","r","s"])(k:aB):aD P w K mg base (aO P w M) 7 f fd ["kind","a","b"] (Nl K M CK k<|kU k):=by
 have O2:=Tf G2.F aJ k;have O1:=ok_crossedS G1.F k _ O2 G2.F.kp G2.b;refine F.oc UN λH Q E hr h=>?_;obtain⟨⟨_,p2,p3,_⟩,⟨w1,r1,rfl,h1,w2,r2,rfl,h2,w3,r3,rfl,h3,rfl⟩,kk⟩:=h;refine⟨_,aR<|bg (cJ O1 hr J G1.m G1.F.kp G1.b .nil aA<|dz (O 0) (bF (dF J G2.m (v:=.ref f2) J) (O 1)<|O 2)),?_⟩;exact kk.by<|cP (t:=L ((),(),p2,p3,())) (f:=λx=>C_ (KR k) x.2.2.1 x.2.2.2.1) (aF aM (aj J aM h1)<|aF kH (iH kH J) (aF bR (aj J bR h2)<|aF nR (aj J nR h3) bQ))
theorem ok_alongS(F:bz K "along" "along" (aN 22) f fd)(aJ:KM P w K mg base M CK)(k:aB):aD P w K mg base (aO P w M) 5 f fd ["kind","p","c","d"]<|Nm K M CK k λp c d=>iY k c d p:=by
 obtain⟨f1,bZ,M1,b1,O1⟩:=aJ.ma;refine F.oc UM λH Q E hr h=>?_;obtain⟨⟨_,p2,p3,p4,_⟩,⟨w1,r1,rfl,h1,w2,r2,rfl,h2,w3,r3,rfl,h3,w4,r4,rfl,h4,rfl⟩,kk⟩:=h;refine⟨_,aR (bg (fO (bF (bV (O 0) aJ.T.cl M1 (O1 k) hr b1 .nil aA (bF (O 2) (aX<|O 3)<|dY jb (O 1) a_ λ_ _=>J)) (bV (O 0) aJ.T.cl M1 (O1 k) hr b1 .nil aA (bF (O 2) (aX<|O 3)<|dY jb (O 1) a_ λ_ _=>J)) (bV (O 0) aJ.T.cl M1 (O1 k) hr b1 .nil aA (bF (O 2) (aX<|O 3)<|dY jb (O 1) a_ λ_ _=>J))))),?_⟩;have v0:NT M E _ _ [L w1,L w2,L w3,L w4] H<|au 0:=aj J aM h1;have v1:NT M E (kS K k) (L p2) [L w1,L w2,L w3,L w4] H<|au 1:=aj J nR h2;have v2:NT M E (RC K k) (L p3) [L w1,L w2,L w3,L w4] H<|au 2:=aj J aI h3;have v3:NT M E (R3 K k) (L p4) [L w1,L w2,L w3,L w4] H<|au 3:=aj J bR h4;exact kk.by (pN (qD h1.1 v0 v2 (jc v3)<|L1 v1) (qD h1.1 v0 v2 (jd v3)<|L3 v1) (qD h1.1 v0 v2 (je v3)<|L4 v1))
theorem ok_tuS{f:ak}{fd:cX}(F:bz K "turned" "turned" (aN 38) f fd)(W:VM P w K mg base M CK)(A1:cU P w K mg base M 7 "cross" ["kind","a","b"] λk=>Nl K M CK k<|kU k)(A3:cU P w K mg base M 7 "along" ["kind","p","c","d"] λk=>Nm K M CK k λp c d=>iY k c d p)(k:aB):aD P w K mg base (aO P w M) 8 f fd ["kind","t","r"] (U' K M CK k<|pq k):=by
 obtain⟨f1,bZ,m1,k1,b1,O1⟩:=A1;obtain⟨f2,dg,m2,k2,b2,O2⟩:=W.add;obtain⟨f3,fh,m3,k3,b3,O3⟩:=A3;refine F.oc p7 λH Q E hr h=>?_;obtain⟨⟨_,q,r,_⟩,⟨w1,r1,rfl,h1,w2,r2,rfl,h2,w3,r3,rfl,h3,rfl⟩,kk⟩:=h
 refine⟨_,aG (bA 3 p7.nd (fO (bF (aX<|O 1) (aX<|O 1) (aX<|O 1))))
  (aG (bA 4 p7.nd<|cJ (O1 k) hr J m1 k1 b1 .nil aA (bF (O 0) (O 3)<|O 2))
  (aG (bA 5 p7.nd<|cJ (O2 k) hr J m2 k2 b2 .nil aA (bF (O 0) (O 4)<|O 4))
  (aG (bA 6 p7.nd<|cJ (O1 k) hr J m1 k1 b1 .nil aA (bF (O 0) (O 3)<|O 5))
  (aG (bA 7 p7.nd (cJ (O3 k) hr J m3 k3 b3 .nil aA (dz (O 0)<|bF (O 2) (aX<|O 1)<|O 5)))
  (aR (bg<|cJ (O2 k) hr J m2 k2 b2 .nil aA (bF (O 0) (O 7)<|O 6))))))),?_⟩
 have n1:NT M E (R3 K k) (L q.axis) [L w1,L w2,L w3,ah,ah,ah,ah,ah] H (kN (aU (bY (dI K) (au 1) (tC<|.int 1))<|aU (bY (dI K) (au 1) (tC<|.int 2))<|aU (bY (dI K) (au 1) (tC<|.int 3)) b8)):=pN (r:=L q.x) (s:=L q.y) (t:=L q.z) (DW<|aj J gu h2) (DX<|aj J gu h2) (DY<|aj J gu h2);refine jP n1 λu3 H3 s3 q3=>?_;have c3:=aM.up s3 h1;have t3:=gu.up s3 h2;have p3:=nR.up s3 h3;refine bW.bind (rb:=kU k q.axis r) (kk.at_ s3) (SQ (g:=kU k) (r:=L q.axis) (s:=L r) (aj J aM c3) (aj J bR q3)<|aj J nR p3) λy4 u4 H4 s4 _ q4 k4=>?_;refine bW.bind (rb:=iR k y4 y4) k4 (kJ (g:=iR k) (r:=L y4) (s:=L y4) (aj J aM<|aM.up s4 c3) (aj J bR q4)<|aj J bR q4) λy5 u5 H5 s5 _ q5 k5=>?_;have zp:=s4.trans s5;refine bW.bind (rb:=kU k q.axis y5) k5 (SQ (g:=kU k) (r:=L q.axis) (s:=L y5) (aj J aM<|aM.up zp c3) (aj J bR<|bR.up zp q3) ((aj J bR q5).cW λ_ _ _=>r3s_of)) λy6 u6 H6 s6 _ q6 k6=>?_;have uT:=zp.trans s6;refine bW.bind (rb:=iY k q.w y5 r) k6 (nt_g3s13 (g:=λp c d=>iY k c d p) (r:=L r) (c:=L q.w) (s:=L y5) (aj J aM<|aM.up uT c3) (aj J nR<|nR.up uT p3) (DV (aj J gu<|gu.up uT t3)) (aj J bR<|bR.up s6 q5)) λy7 u7 H7 s7 _ q7 k7=>?_;exact k7.by (kJ (g:=iR k) (r:=L y7) (s:=L y6) (aj J aM<|aM _ _ _ _ (uT.trans s7) c3) (aj J bR q7) (aj J bR<|bR.up s7 q6))
abbrev ID(K:aq)(M CK CB:ak)(k:aB):Sp:=c7 M (aQ (RK CK k) (aQ (ck K CB k)<|aQ (kS K k) cq)) (R3 K k) λx=>(pq k x.2.1.turn x.2.2.1).bind λa=>iR k x.2.1.at_ a
theorem scPP:bE ["kind","body","r"] ["kind","body","r"] (bw<|aN 48):=fs
theorem ok_pointPlace(F:bz K "point_place" "point_place" (aN 48) f fd)(B:BM P w K mg base M CK CB)(A1:cU P w K mg base M 10 "turned" ["kind","t","r"] λk=>U' K M CK k<|pq k)(k:aB):aD P w K mg base (aO P w M) 12 f fd ["kind","body","r"]<|ID K M CK CB k:=by
 have TB:=B.TB;refine F.oc scPP λH Q E hr h=>?_;obtain⟨⟨_,b,r,_⟩,⟨w1,r1,rfl,h1,w2,r2,rfl,h2,w3,r3,rfl,h3,rfl⟩,kk⟩:=h;refine⟨_,aR<|bg (B.V.add.c k hr aA (bF (O 0) (bh<|O 1) (A1.c k hr aA<|bF (O 0) (bh<|O 1)<|O 2))),?_⟩;have v0:NT M E _ _ [L w1,L w2,L w3] H<|au 0:=aj J aM h1;have v1:NT M E _ _ [L w1,L w2,L w3] H<|au 1:=aj J cu h2;have nt:NT M E (R3 K k) (pq k b.turn r) _ H _:=cP (t:=L ((),b.turn,r,())) (f:=λx=>pq k x.2.1 x.2.2.1)<|aF aM v0 (aF gu (wW TB v1)<|aF nR (aj (i:=2) J nR h3) bQ);exact kk.by<|kJ v0 (yU TB v1) nt
end
end BW
namespace BW
open PySem PySem.Spec PyProof.Rows L2
open Bw (bS cQ bf cn ba)
section
variable{P:cN}{w:World}{K:aq}{mg:ax->aw aE}{base:b9}{M CK CB:ak}
def Pg(m:af):bO af:=λ_ v n=>v= .int n/\n<m
theorem Sl:cV<|Pg m:=λ_ _ _ _ _ h=>h
abbrev Vx(K:aq)(M CB:ak)(k:aB):Sp:=c7 M (aQ (ck K CB k) (aQ (Pg 20)<|aQ (RC K k) cq)) (ck K CB k) λx=>L (Ap<|(mX x.1).set x.2.1 x.2.2.1)
theorem UL:bE ["body","what","x","numbers"] ["body","what","x"] (bw<|aN 45):=fs
theorem ok_with(F:bz K "with_number" "with_number" (aN 45) f fd)(TC:jq mg)(TB:iM K mg CB)(mB:mg "Body"=L (.ref CB))(MB:Mk K CB fB)(OB:∀k,aD P w K mg base (aO P w M) 10 fB Ge ["self","numbers"]<|EH K M CB k)(bB:Binds K Ge ["self","numbers"] [])(B4:o_ K CB "twenty" fT)(rg:∀k,aD P w K mg base (aO P w M) 10 fT tV ["self"]<|u_ K M CB k)(CG:Binds K tV ["self"] [])(k:aB):aD P w K mg base (aO P w M) 14 f fd ["body","what","x"]<|Vx K M CB k:=by
 refine F.oc UL λH Q E hr h=>?_;obtain⟨⟨b,n,x,_⟩,⟨w1,r1,rfl,h1,w2,r2,rfl,⟨h2,hn⟩,w3,r3,rfl,h3,rfl⟩,kk⟩:=h;subst h2;have hn:n<20:=hn;refine⟨_,aG (bA 3 UL.nd<|nU Kk J TC.list P2 (bu<|ee (O 0) TB.cl B4 (rg k) (hr.aV dc) CG .nil aA)) (aG (zi (O 2)<|zf (O 3) (O 1) zx)<|aR (bg<|oI MB (OB k) (hr.aV dc) J mB bB .nil aA (bu<|O 3))),?_⟩;refine(Mc<|aj J cu h1).go λv U s1⟨p,vs,e,hp,ha⟩=>?_;subst e;refine⟨p,vs,J,.inr hp,λl hl=>?_⟩;have dG:vs.length=20:=ha.bG;have yJ:kE vs.length n=L n:=by unfold kE;rw[aH om,aH om,kl]
 refine⟨_,J,_,J,_,J,l,vs,n,n,J,J,bp,yJ,?_⟩;have s2:az U (aC U l<|.lst vs):=az.new hl;have t3:cp U (aC (aC U l<|.lst vs) l (.lst<|vs.set n w3)):=s2.i.1.trans<|cp.aC (by rw[bp];trivial);have sb:az H (aC (aC U l<|.lst vs) l (.lst<|vs.set n w3)):=λc o e=>by
  have hc:=dv (s1 _ _ e) hl;rw[bI hc,bI hc];exact s1 _ _ e
 have Mu:Ci K k (aC (aC U l<|.lst vs) l (.lst<|vs.set n w3)) _ _:=⟨.inl ⟨l,_,J,SqL.of bp,(ha.imp λv x=>du _ _ _ _ t3).set n<|du _ _ _ _ (s1.i.1.trans t3) h3⟩,by rw[o9];rfl⟩;exact kk.gQ sb<|yX (t:=L ((mX b).set n x,())) (f:=λx=>L<|Ap x.1)<|aF DI (aj J DI Mu) bQ
def FX(bs:ag ff)(j:af):ag af:=bs.map λb=>b.at_.list.getD j 0
abbrev Nr(K:aq)(M CB:ak)(k:aB):Sp:=c7 M (rj (aQ (vP K CB k) cq) λx=>x.1≠[]/\bS k) (fI<|RC K k) λx=>L<|Rb49.box k {bodies:=x.1}
theorem uU:bE ["bodies","columns","k","body","column"] ["bodies"] (bw<|aN 52):=fs
theorem ok_box{f:ak}{fd:cX}(F:bz K "box_of" "box_of" (aN 52) f fd)(TC:jq mg)(TB:iM K mg CB)(A1:cU P w K mg base M 10 "least" ["numbers"] λk=>IC K M k<|Pn k)(A2:cU P w K mg base M 10 "greatest" ["numbers"] λk=>IC K M k<|Pk k)(k:aB):aD P w K mg base (aO P w M) 20 f fd ["bodies"]<|Nr K M CB k:=by
 obtain⟨f1,bZ,m1,k1,b1,O1⟩:=A1;obtain⟨f2,dg,m2,k2,b2,O2⟩:=A2;refine F.oc uU λH Q E hr h=>?_;obtain⟨⟨bs,_⟩,⟨⟨w1,r1,rfl,⟨h1,oC⟩,rfl⟩,gR,hk⟩,kk⟩:=h
 refine⟨_,aG (Bj (i:=1) (own:=[("k",2)]) (te:=mE (yH K<|au 0) (eE 3) oU (bY (dI K) (cZ K (au 3) "place")<|au 2) [3]) J J J (jM (E:=E)) J uU.nd J J (BF J J J J) (zg J TC.range<|bu a_) bk (λ_ _ _ _ _=>ej 2 uU.nd) (λ_ _ _ _ _=>jh)
  (λ_ _ _ _ _=>Tu (own:=[("body",3)]) J uU.nd (jf<|O 0) bk (λ_ _ _ _ _=>ej 3 uU.nd) (λ_ _ _ _ _=>jh) λ_ _ _ _ _=>dY uj (bh<|O 3) (O 2) λ_ _=>J))
  (aR (bg (bL uE (oH (own:=[("column",4)]) J J J jM J uU.nd (jf<|O 1) bk (λ_ _ _ _ _=>ej 4 uU.nd) (λ_ _ _ _ _=>jh) λ_ _ _ _ _=>cJ (O1 k) (hr.aV dc) J m1 k1 b1 .nil jO (bu<|O 4)) (oH (own:=[("column",4)]) J J J jM J uU.nd (jf<|O 1) bk (λ_ _ _ _ _=>ej 4 uU.nd) (λ_ _ _ _ _=>jh) λ_ _ _ _ _=>cJ (O2 k) (hr.aV dc) J m2 k2 b2 .nil jO (bu<|O 4))))),?_⟩
 refine⟨3,J,dc,dc,λD hD=>?_⟩;refine GR (lo:=0) (n:=3) (λj Hc=>az H Hc/\ ∃cv:ag V,Hc D=L (.lst cv)/\cf (λv l=>∃p vs,v= .ref p/\Hc p=L (.lst vs)/\cf (RC K k Hc) vs l/\p≠D) cv ((il j).map<|FX bs)) ⟨az.new hD,[],bp,cg⟩ (λj Hc hj I=>?_) λHc I=>?_
 ·obtain⟨sm,cv,eD,ac⟩:=I
  refine⟨J,?_⟩;rw[vE];unfold oU;refine pH ?_;have ni:NT M E (jF Hc<|RC K k) (L<|FX bs j) ((c8 [L w1,ah,ah,ah,ah] [2]).set 2 (L<|.int (j:ae))) Hc _:=(SW (i:=3) (vs:=[3]) (R:=RC K k) (R':=ck K CB k) du.i.mD aI cu (aj (i:=0) J (cw cu)<|cw cu _ _ _ _ sm h1) (dJ oC dc) (λ_=>J) λH2 v b s2 _ rb=>DZ aI ((yU TB<|aj (i:=3) J cu rb).conv λ_ _=>pW) (aj (i:=2) J ib J)<|RU b.at_ hj).eq<|Bw.lN _
  refine ni.go λv H2 s2⟨p,vs,e,hp,ha,hn⟩=>?_;subst e;have pD:p≠D:=λz=>by rw[z,eD] at hn;cases hn
  refine⟨cv,s2 _ _ eD,?_,λc o e=>?_,cv++[.ref p],bp,?_⟩
  ·rw[ac.bG,hJ,vH]
   exact Xp hj dc
  ·rw[bI<|dv e hD]
   exact s2 _ _<|sm _ _ e
  ·have t3:cp H2<|aC H2 D (.lst<|cv++[V.ref p]):=cp.aC (by rw[s2 _ _ eD];trivial)
   rw[List.range_succ,B2];exact(ac.imp λv l⟨q,us,e,hq,hu,nq⟩=>⟨q,us,e,by rw[bI nq];exact s2 _ _ hq,hu.imp λv x=>du _ _ _ _<|s2.i.1.trans t3,nq⟩).snoc ⟨p,vs,J,by rw[bI pD];exact hp,ha.imp λv x=>du _ _ _ _ t3,pD⟩
 ·obtain⟨sm,cv,eD,ac⟩:=I
  have hcol:∀j,FX bs j≠[]:=λj z=>gR (by unfold FX at z;exact List.map_eq_nil_iff.mp z)
  have rc:RL K (Cj K k) Hc (.ref D) _:=⟨D,cv,J,SqL.of eD,cf.Md ac.bG λi v l h1 h2=>by
   obtain⟨p,vs,e,hp,ha,_⟩:=ac.at_ h1 h2;refine⟨⟨p,vs,e,SqL.of hp,ha⟩,?_⟩;obtain⟨j,_,rfl⟩:=List.mem_map.mp (jW h2)
   exact⟨hcol j,hk⟩⟩
  have nl:NT M E (fI<|RC K k) _ [L w1,L<|.ref D,ah,ah,ah] Hc _:=(Ho (i:=4) (vs:=[4]) (R:=RC K k) (R':=Cj K k) du.i.mD aI wL (aj (i:=1) J (cw wL) rc) (by show 3<=bH;decide) (λ_=>J) λH2 v l s2 _ r=>cP (t:=L (l,())) (f:=λx=>L<|Pn k x.1)<|aF wL (aj (i:=4) J wL r) bQ).eq<|Bw.lN _;have ng:NT M E (fI<|RC K k) _ [L w1,L<|.ref D,ah,ah,ah] Hc _:=(Ho (i:=4) (vs:=[4]) (R:=RC K k) (R':=Cj K k) du.i.mD aI wL (aj (i:=1) J (cw wL) rc) (by show 3<=bH;decide) (λ_=>J) λH2 v l s2 _ r=>cP (t:=L (l,())) (f:=λx=>L<|Pk k x.1)<|aF wL (aj (i:=4) J wL r) bQ).eq<|Bw.lN _;exact kk.gQ sm<|L6 aI nl ng λa b ea eb=>by cases ea;cases eb;show 3+3<=bH;decide
end
end BW
namespace BW
open PySem PySem.Spec PyProof.Rows L2
open Bw (bS cQ bf cn Gives eZ hm)
section
variable{P:cN}{w:World}{K:aq}{mg:ax->aw aE}{base:b9}{M CK:ak}
theorem ok_hmH(F:bz K "has_minus" "has_minus" qI f fd):E7 P w K mg base gZ 1 f fd ["x"]<|qL K M:=by
 obtain⟨oc,od,kV,dR,pm,an,cG,ct,uG,rfl,lk,me⟩:=F.ex;refine ZE lk me UC (λvs H Q E h=>?_) λA bC s H vs Q E hr h=>?_
 ·obtain⟨t,⟨v,r,rfl,_,rfl⟩,_⟩:=h
  rfl
 ·obtain⟨⟨p,_⟩,⟨v,r,rfl,⟨a,rfl,hp⟩,rfl⟩,k⟩:=h
  refine⟨_,aR (bg (Ml (ke lG (aX<|O 0) a_<|cT _) (sD (xf (ke iQ (aX<|O 0) a_<|cT _) (sD<|ke iQ (aX<|O 0) a_<|cT _))))),?_⟩;refine⟨_,J,a,_,_,_,J,J,hp,J,_,_,J,J,_,J,d4 (λc=>?_) λc=>?_⟩
  ·refine k.wF ?_
   exact dD (.inl<|dE c)
  ·refine⟨_,J,a,_,_,_,J,J,hp,J,_,_,J,J,_,J,d4 (λd=>?_) λd=>?_⟩
   ·refine⟨_,J,a,_,_,_,J,J,hp,J,_,_,J,J,k.wF ?_⟩
    have d:p.1=0:=dE d;show decide (p.1<0\/(p.1=0/\p.2=1))=decide (p.2=1);rw[Kr];omega
   ·refine k.wF ?_
    have c:¬p.1<0:=λz=>c<|dD z;have d:¬p.1=0:=λz=>d<|dD z;exact gW (by show¬(p.1<0\/(p.1=0/\p.2=1));omega)
abbrev T8:L2.R2:=rI (λi j=>0<=j/\j<=100000/\i.natAbs<2^250) λi j=>.int<|i*2^j.toNat
theorem inf_eq(hj:bS j):(Bw.aN j-j.least+2)*2^(((j.frac+1:af):ae)-1).toNat=(Bw.yI j:af):=by rcases hj with rfl|rfl<;>decide+kernel
theorem DS:kI "to_bits":=pK _ dk
theorem Mb(h0:NT M E (RK CK k) (L ()) σ H te)(h1:NT M E (RC K k) (L x) σ H t1):NT M E RI (L x) σ H (eu CK "to_bits" (NL K M CK k) [] E te<|aU t1 b8):=oF (f:=λx=>L (x.2.1:ae)) h0 aM (λ_ _=>uP DS.1 DS.2.1 DS.2.2.1 DS.2.2.2.1 DS.2.2.2.2)<|aF aI h1 bQ
abbrev ND(K:aq)(M CK:ak)(k j:aB):Sp:=c7 M (rj (aQ (RK CK j)<|aQ (RC K k) cq) λ_=>bS k) RI λx=>L (J3 k j x.2.1:af)
theorem MR:bE ["self","x","nearest","infinity"] ["self","x"] (bw<|sK 3):=fs
theorem ok_nearest{f f1 f2 f3:ak}{fd bZ dg fh:cX}(F:bz K "nearest_bits" "Kind.nearest_bits" (sK 3) f fd)(T:i' K mg M CK)(G1:Gf K mg "has_minus" qI f1 bZ ["x"])(G2:Gm K CK "rounded" "Kind.rounded" (sK 4) f2 dg ["self","m","e"])(G3:Gm K CK "to_bits" "Kind.to_bits" (sK 2) f3 fh ["self","x"])(k j:aB):aD P w K mg base (aO P w M) 4 f fd ["self","x"]<|ND K M CK k j:=by
 have O1:E7 P w K mg base gZ 1 f1 bZ ["x"]<|qL K M:=ok_hmH G1.F;have O2:aD P w K mg base (aO P w M) 1 f2 dg ["self","m","e"]<|uZ K M CK j:=D5 G2.F T j;have O3:aD P w K mg base (aO P w M) 1 f3 fh ["self","x"]<|NL K M CK j:=(Tj G3.F T j).gr;refine F.oc MR λH Q E hr h=>?_;obtain⟨⟨_,a,_⟩,⟨⟨v,r,rfl,hj,v2,r2,rfl,h2,rfl⟩,hk⟩,kk⟩:=h
 refine⟨_,aG (dU (dB iQ (aX<|O 1) a_<|cT _) (aR (bg<|bV (O 0) T.cl G3.aJ O3 (hr.aV dc) G3.b .nil aA (bu<|O 1))) d5)
  (aG (ps_tryAt (ts:=oS (jU (bY T8 (bY (gy λi j=>.int<|i+j) (bY (gy λi j=>.int<|i-j) (cZ K (au 0) "greatest")<|cZ K (au 0) "least") (tC<|.int 2)) (bY (gy λi j=>.int<|i-j) (cZ K (au 0) "digits") (tC<|.int 1)))<|eE 3) (VZ (NX (tB (d8 (qL K M) [] E0<|aU (au 1) b8)) (bY (gy λi j=>.int<|i+j) (au 3)<|bY T8 (tC<|.int 1)<|cZ K (au 0) "sign_bit")<|au 3))) (tb:=λxC Hc=>jU (λσ H Q=>σ=xC/\eu CK "rounded" (uZ K M CK j) [] (λ_ _ H'=>Hc H') (au 0) (aU (bY (dI K) (au 1) (tC<|.int 0))<|aU (bY (dI K) (au 1) (tC<|.int 1)) b8) σ H Q)<|eE 2) J J J T.rM J T.r_
    (λxC Hc pl=>aR (bA 2 MR.nd<|pe_methAt (O 0) T.cl G2.aJ O2 (hr.aV dc) G2.b (λ_ _ _ _ _ I h=>Tr I J h) (bJ (aX<|O 1) (aX<|O 1))))
    (λpl e=>aG (bA 3 MR.nd<|bL lH (bL fu (bL ig (bh<|O 0) (bh<|O 0)) a_)<|bL ig (bh<|O 0) a_)
      (aR (bg (mw (iT<|pe_callH O1 (hr.mark dc _) J G1.m G1.F.kp G1.b .nil xc (bu<|O 1)) (bL fu (O 3)<|bL lH a_ (bh<|O 0))<|O 3)))))
  (aR (bg<|bV (O 0) T.cl G3.aJ O3 (hr.aV dc) G3.b .nil aA (bu<|O 2)))),?_⟩
 have kk:bW M RI H (L ((J3 k j a:af):ae)) Q E:=kk;have hk:bS k:=hk;obtain⟨⟨q,rfl,hq⟩,fa⟩:=id h2;have hq:cD K H q [.int (bf k a).1,.int (bf k a).2]:=hq;have sm:(bf k a).1.natAbs<2^53/\ -1074<=(bf k a).2/\(bf k a).2<=971:=(cn.bf hk fa).small;refine⟨_,J,q,_,_,_,J,J,hq,J,_,_,J,J,_,J,d4 (λc1=>?_) λc1=>?_⟩
 ·have c1:(bf k a).1=0:=dE c1
  have z:(Rb49.whole k a).1=0:=by rw[<-Bw.rK,c1];rfl
  obtain⟨d1,d2⟩:=Bw.F2 j (dM k a) hj.1.expo;have ea:bf k a=(0,if dM k a=ao then 1 else 0):=by unfold bf;rw[aH z]
  have e1:bf j (fH j<|dM k a)=bf k a:=by rw[d1,ea]
  have rc:RC K j H (.ref q) (fH j<|dM k a):=⟨⟨q,J,by rw[e1];exact hq⟩,d2⟩;rw[Bw.other_zero z] at kk;exact kk.by<|Mb (σ:=[L v,L<|.ref q,ah,ah]) (aj J aM hj)<|aj J aI rc
 ·have c1:¬(bf k a).1=0:=λz=>c1<|dD z
  have z:(Rb49.whole k a).1≠0:=by
   have:=Bw.rK k a;omega
  have v0:∀{E:XK}{U:Hp}{x2 x3:aw V},az H U->NT M E (RK CK j) (L ()) [L v,L<|.ref q,x2,x3] U (au 0):=λs=>aj J aM<|aM.up s hj;have v1:∀{E:XK}{U:Hp}{x2 x3:aw V},az H U->NT M E (RP K) (L<|bf k a) [L v,L<|.ref q,x2,x3] U (au 1):=λs=>aj J gJ ⟨q,J,s.tup hq⟩;have it:∀(i:af)(y:ae){E:XK}{R:bO ae},([.int (bf k a).1,.int (bf k a).2]:ag V)[i]? =L (.int y)->(∀H,R H (.int y) y)->NT M E R (L y) [L v,L<|.ref q,ah,ah] H (bY (dI K) (au 1) (tC<|.int (i:ae))):=λi y _ R hi hR=>ka (K:=K) i (v1<|az.refl H) λU u⟨b,e,r⟩=>⟨b,_,.int y,e,r,hi,hR U⟩;refine⟨λH'=>az H H'/\eZ j (bf k a).1 (bf k a).2=ah,⟨J,?_⟩,λH'⟨s1,e1⟩=>?_⟩
  ·have b1:Bw.fK (bf k a).1<=8000:=dJ (yk sm.1) dc
   refine Bc (v0<|az.refl H) (it 0 _ J λ_=>⟨J,b1⟩) (it 1 _ J λ_=>⟨J,om,om⟩) H _ (az.refl H) ⟨λU u p s1 e1 q1=>?_,λU s1 e1=>⟨s1,e1⟩⟩;obtain⟨o1,o2⟩:=Bw.other_some hj.1 z e1;subst o1;exact kk.gQ s1 (Mb (σ:=[L v,L<|.ref q,L u,ah]) (v0 s1)<|aj J aI ⟨q1,o2⟩)
  ·rw[Bw.other_none hj.1 z e1] at kk
   obtain⟨Lc,c,dx,rfl,hc⟩:=aM.up s1 hj;have kb:=Dz Lc;have ks:=Nd Lc;refine⟨_,J,c,CK,dx,_,_,J,hc,T.cl,T.ng,Dx j,_,J,c,CK,dx,_,_,J,hc,T.cl,T.nl,yL j,_,_,J,J,_,_,J,J,_,J,c,CK,dx,_,_,J,hc,T.cl,T.nd,yK j,_,_,J,J,_,_,J,J,⟨?_,?_,?_⟩,?_⟩
   ·show(0:ae)<=((j.frac+1:af):ae)-1;omega
   ·show((j.frac+1:af):ae)-1<=100000;omega
   ·show(Bw.aN j-j.least+2).natAbs<2^250
    have:(2:af)^64<=2^250:=by decide
    omega
   dsimp only[eE];rw[inf_eq Lc];have eh:hm (bf k a)=dM k a:=(cn.bf hk fa).sv.hm;refine(sC (C:=M) (E:=E0)<|v1 s1).go λu H2 s2 q2=>⟨_,q2,d4 (λc3=>?_) λc3=>?_⟩
   ·rw[eh] at c3
    refine⟨_,J,_,J,c,CK,dx,_,_,J,s2 _ _ hc,T.cl,T.ns,Dy j,_,_,J,J,⟨?_,?_,by show(1:ae).natAbs<2^250;decide⟩,_,_,J,J,kk.ok H2 _ _ (s1.trans s2) J ?_⟩
    ·show(0:ae)<=((j.frac+j.expo:af):ae);omega
    ·show((j.frac+j.expo:af):ae)<=100000;omega
    ·show V.int (((Bw.yI j:af):ae)+1*2^(((j.frac+j.expo:af):ae)).toNat)=V.int ((fH j (dM k a)+Bw.yI j:af):ae)
     rw[c3,kl,zM];unfold fH Rb49.Kind.sign;rw[aH J,WT,Bw.iS,Oh]
   ·rw[eh] at c3
    refine⟨_,J,kk.ok H2 _ _ (s1.trans s2) J ?_⟩;show V.int ((Bw.yI j:af):ae)=V.int ((fH j (dM k a)+Bw.yI j:af):ae);unfold fH;rw[ay c3,Fn]
end
end BW
namespace BW
open PySem PySem.Spec PyProof.Rows L2
open Bw (bS cQ bf cn ba n9)
section
variable{C:ak}{E:XK}{σ:L2.St}{H:Hp}{ta tb t1 t2:TE}{a b:c_}{K:aq}
theorem A8(h1:NT C E RB (L a) σ H ta)(h2:a=ao->NT C E RB (L b) σ H tb):NT C E RB (L<|a&&b) σ H<|VS ta tb:=λU Q s k=>
 (h1.at_ s).go λv H2 s2 q=>⟨a,q,by
   cases a with
   |true=>exact((h2 J).at_<|s.trans s2) H2 Q sr (k.at_ s2)
   |false=>exact k.ok H2 _ aK s2 J J⟩
theorem nt_or(h1:NT C E RB (L a) σ H ta)(h2:a=aK->NT C E RB (L b) σ H tb):NT C E RB (L<|a||b) σ H<|VY ta tb:=λU Q s k=>
 (h1.at_ s).go λv H2 s2 q=>⟨a,q,by
   cases a with
   |false=>exact((h2 J).at_<|s.trans s2) H2 Q sr (k.at_ s2)
   |true=>exact k.ok H2 _ ao s2 J J⟩
theorem S4(h1:NT C E RB (L a) σ H ta):NT C E RB (L<|!a) σ H<|VX ta:=λU Q s k=>
 (h1.at_ s).go λv H2 s2 q=>⟨a,q,k.ok H2 _ _ s2 J J⟩
theorem jN{g:ae->ae->c_}(h1:NT C E RI (L i) σ H t1)(h2:NT C E RI (L j) σ H t2):NT C E RB (L<|g i j) σ H<|bY (gy λi j=>.bl<|g i j) t1 t2:=λU Q s k=>
 (h1.at_ s).go λv H2 s2 q=>(h2.at_<|s.trans s2).go λu H3 s3 q3=>⟨i,j,q,q3,k.ok H3 _ _ (s2.trans s3) J J⟩
theorem Hn{g:ae->ae->ae}(h1:NT C E RI (L i) σ H t1)(h2:NT C E RI (L j) σ H t2):NT C E RI (L<|g i j) σ H<|bY (gy λi j=>.int<|g i j) t1 t2:=λU Q s k=>
 (h1.at_ s).go λv H2 s2 q=>(h2.at_<|s.trans s2).go λu H3 s3 q3=>⟨i,j,q,q3,k.ok H3 _ _ (s2.trans s3) J J⟩
theorem fG:NT C E RI (L i) σ H (tC<|.int i):=iH ia J
def NB(r:c_)(σ:L2.St)(H:Hp)(tt:TT):Prop:=∀U Q,az H U->(∀H2,az U H2->Q r H2)->tt σ U Q
theorem qA(h:NT C E RB (L a) σ H ta):NB a σ H<|tB ta:=λU Q s k=>(h.at_ s).go λv H2 s2 q=>⟨a,q,k H2 s2⟩
theorem sj(h:NT C E RB (L a) σ H<|bY r t1 t2):NB a σ H (IU<|bY r t1 t2):=λU Q s k=>(h.at_ s).go λv H2 s2 q=>⟨a,q,k H2 s2⟩
theorem qy(h1:NB a σ H x)(h2:a=aK->NB b σ H y):NB (a||b) σ H<|NZ x y:=λU Q s k=>h1 U _ s λH2 s2=>by
 cases a with
 |false=>exact Dt (h2 J H2 Q (s.trans s2) λH3 s3=>k H3<|s2.trans s3)
 |true=>exact pH<|k H2 s2
theorem wN(h1:NB a σ H x):NB (!a) σ H<|VW x:=λU Q s k=>h1 U _ s λH2 s2=>k H2 s2
theorem iG(h:NB a σ H x)(Jg:a=ao-> ∀U,az H U->u1 D σ U)(no:a=aK-> ∀U,az H U->u2 D σ U):zE x u1 u2 D σ H:=h H _ sr λH2 s2=>by
 cases a with
 |true=>exact pH<|Jg J H2 s2
 |false=>exact Dt<|no J H2 s2
theorem PB:∀{vs:ag V}{bs:ag c_},cf (RB H) vs bs->vs=bs.map V.bl
 |[],[],_=>rfl
 |_::_,_::_,h=>by rw[kr,<-PB h.2,show _=_ from h.1]
theorem SJ(h:NT C E (RL K RB) (L bs) σ H ta):NT C E RB (L<|bs.any id) σ H (xy (T4 K)<|aU ta b8):=λU Q s k=>(h.at_ s).go λv H2 s2⟨p,vs,e,hp,ha⟩=>by
 subst e;rw[PB ha] at hp;exact⟨p,bs,J,hp,k.ok H2 _ _ s2 J J⟩
theorem D2{R:bO α}{xs:ag α}(h:NT C E (RL K R) (L xs) σ H ta):NT C E RI (L xs.length) σ H (xy (λxs H Q=>∃p ys,xs=[.ref p]/\(SqL K H p ys\/cD K H p ys)/\Q (.int ys.length) H)<|aU ta b8):=λU Q s k=>(h.at_ s).go λv H2 s2⟨p,vs,e,hp,ha⟩=>by
 subst e;exact⟨p,vs,J,.inl hp,k.ok H2 _ _ s2 J (by rw[ha.bG];rfl)⟩
end
section
variable{P:cN}{w:World}{K:aq}{mg:ax->aw aE}{base:b9}{M CK CB:ak}
abbrev Np(K:aq)(M:ak)(k:aB):Sp:=c7 M (rj (aQ (RL K<|RC K k) cq) λx=>bS k/\x.1.length<=4096) RB λx=>L (x.1.any λv=>jH k v 0)
theorem MI:bE ["numbers","x"] ["numbers"] (bw<|aN 93):=fs
theorem any_map{α:Type}(f:α->c_)(l:ag α):(l.map f).any id=l.any f:=by rw[WY];rfl
theorem nt_zero(hk:bS k)(h:∀H,cD K H a [.int 0,.int 0]):NT M E (RN K k) (L 0) σ H (tC<|.ref a):=iH eK ⟨_,⟨a,J,h H⟩,Bw.Ud hk⟩
theorem ok_anyBelow(F:bz K "any_below_zero" "any_below_zero" (aN 93) f fd)(TC:jq mg)(T:i' K mg M CK)(G1:Gf K mg "is_below" qH f1 bZ ["x","y"])(k:aB):aD P w K mg base (aO P w M) 10 f fd ["numbers"]<|Np K M k:=by
 have O1:aD P w K mg base (aO P w M) 5 f1 bZ _<|oQ K M k:=(w9 G1.F k).gr.aV dc;obtain⟨za,zm,zz⟩:=T.pz;refine F.oc MI λH Q E hr h=>?_;obtain⟨⟨l,_⟩,⟨⟨w1,r1,rfl,h1,rfl⟩,hk,hl⟩,kk⟩:=h;refine⟨_,aR<|bg (jy (Qb J) J TC.any boot_any<|bu (oH (own:=[("x",1)]) J J J jM J MI.nd (jf<|O 0) bk (λ_ _ _ _ _=>ej 1 MI.nd) (λ_ _ _ _ _=>jh) λ_ _ _ _ _=>cJ O1 (hr.aV dc) J G1.m G1.F.kp G1.b .nil jO (bJ (O 1)<|dF J zm (v:=.ref za) J))),?_⟩;have nl:NT M E _ _ [L w1,ah] H _:=(w8 (i:=1) (vs:=[1]) (λ_ _ _ _ _ _ _ h=>h) Si aI (aj (i:=0) J (cw aI) h1) (dJ hl dc) (λ_=>J) λH2 v x s2 _ r=>sy (aj (i:=1) J eK<|dS hk r)<|nt_zero hk zz).eq<|Bw.lN _;exact kk.by ((SJ nl).eq<|by rw[any_map])
def Gi(mg:ax->aw aE)(x:ax)(i:ae):Prop:=∃t,mg x=L (.int i t)
abbrev Vj(M:ak):Sp:=c7 M (aQ RI cq) RB λx=>L<|decide (0<=x.1)&&x_ x.1.toNat
theorem scIP:bE ["what"] ["what"] (bw<|aN 95):=fs
theorem ZH(i:ae):(decide (0<=i)&&x_ i.toNat)=((decide (4<=i)&&decide (i<=6))||(decide (11<=i)&&decide (i<20))):=by
 unfold x_;rw[E3];simp[eR,E4,j7];omega
theorem ok_isPut(F:bz K "is_number_to_put" "is_number_to_put" (aN 95) f fd)(hb:Gi mg "BODY_NUMBERS" 20):aD P w K mg base (aO P w M) 10 f fd ["what"]<|Vj M:=by
 obtain⟨tb,mb⟩:=hb;refine F.oc scIP λH Q E hr h=>?_;obtain⟨⟨i,_⟩,⟨w1,r1,rfl,h1,rfl⟩,kk⟩:=h;have v0:NT M E RI _ [L w1] H<|au 0:=aj J ia h1;refine⟨_,aR (bg (Ml (xf (ke xb (O 0) a_<|cT _)<|sD (ke Mg (O 0) a_<|cT _)) (sD (xf (ke xb (O 0) a_<|cT _)<|sD (ke lG (O 0) (dF J mb (v:=.int 20) ⟨tb,J⟩)<|cT _))))),?_⟩;exact kk.by ((nt_or (A8 (jN v0 fG) λ_=>jN v0 fG) λ_=>A8 (jN v0 fG) λ_=>jN v0 fG).eq<|gH L (ZH i).symm)
abbrev Vw(K:aq)(M CK:ak)(k:aB):Sp:=c7 M (aQ (RK CK k)<|aQ (tE K k) cq) RB λx=>L<|n9 k x.2.1
theorem UK:bE ["kind","t","square"] ["kind","t"] (bw<|aN 94):=fs
theorem ok_usable{f f1:ak}{fd bZ:cX}(F:bz K "is_usable_turn" "is_usable_turn" (aN 94) f fd)(T:i' K mg M CK)(XT:J8 K mg)(h4:∃a,mg "FOUR"=L (.ref a)/\ ∀H,cD K H a [.int 1,.int 2])(G1:Gf K mg "is_below" qH f1 bZ ["x","y"])(A1:cU P w K mg base M 10 "turn_square" ["kind","t"] λk=>IH K M CK k)(k:aB):aD P w K mg base (aO P w M) 12 f fd ["kind","t"]<|Vw K M CK k:=by
 have O1:aD P w K mg base (aO P w M) 5 f1 bZ ["x","y"]<|oQ K M k:=(w9 G1.F k).gr.aV dc;obtain⟨qa,qm,qq⟩:=XT.qu;obtain⟨ga,gm,gq⟩:=h4;refine F.oc UK λH Q E hr h=>?_;obtain⟨⟨_,q,_⟩,⟨w1,r1,rfl,h1,w2,r2,rfl,h2,rfl⟩,kk⟩:=h;have hk:=h1.1
 refine⟨_,aG (Ef J J J T.rM J T.r_ (λHc pl=>aR (bA 2 UK.nd<|A1.c k hr D' (bJ (O 0)<|O 1))) λpl e=>aR<|bg pe_bl)
  (aR (bg (xf (Tv<|cJ O1 (hr.aV dc) J G1.m G1.F.kp G1.b .nil aA (bJ (O 2)<|dF J qm (v:=.ref qa) J))<|sD (Tv<|cJ O1 (hr.aV dc) J G1.m G1.F.kp G1.b .nil aA (bJ (dF J gm (v:=.ref ga) J)<|O 2))))),?_⟩
 have kk:bW M RB H (L<|n9 k q) Q E:=kk;refine⟨λH'=>az H H'/\yb k q=ah,?_,λaS H'⟨s1,e1⟩_=>kk.ok H' _ aK s1 (by unfold n9;rw[e1]) J⟩;have uC:NT M (λ_ _ H'=>az H H'/\yb k q=ah) (RC K k) (yb k q) [L w1,L w2,ah] H<|d8 (IH K M CK k) [] _ (aU (au 0)<|aU (au 1) b8):=cP (t:=L ((),q,())) (f:=λx=>yb k x.2.1) (aF aM (aj J aM h1)<|aF lE (aj J lE h2) bQ);refine uC H _ sr ⟨λU u1 n s1 en q1=>?_,λH' s' e'=>⟨s',e'⟩⟩;have vn:NT M E (RN K k) (L n) [L w1,L w2,L u1] U<|au 2:=aj J eK<|dS hk q1;have vq:NT M E (RN K k) (L<|oK k (-2)) [L w1,L w2,L u1] U (tC<|.ref qa):=iH eK ⟨_,⟨qa,J,qq U⟩,Bw.Uc hk⟩;have vg:NT M E (RN K k) (L<|oK k 2) [L w1,L w2,L u1] U (tC<|.ref ga):=iH eK ⟨_,⟨ga,J,gq U⟩,Bw.rep_four hk⟩;exact kk.gQ s1 ((A8 (S4<|sy vn vq) λ_=>S4<|sy vg vn).eq (by unfold n9;rw[en]))
end
end BW
namespace BW
open PySem PySem.Spec PyProof.Rows L2
open Bw (bS cQ bf cn ba fE)
structure Cs where
 F:ak
 K:ak
 B:ak
 S:ak
 C:ak
 R:ak
abbrev ou:ag ax:=["kind","bodies","springs","walls"]
def iV(v0 v1 v2 v3:V):ag<|ax×V:=aY "walls" v3<|aY "springs" v2 (aY "bodies" v1<|aY "kind" v0 [])
def G'(m:ax):c_:=decide (¬m="walls")&&decide (¬m="springs")&&decide (¬m="bodies")&&decide (¬m="kind")
theorem EA(h:G' m=ao):(iV v0 v1 v2 v3).lookup m=ah:=by
 unfold G' at h;rw[eR,eR,eR] at h;unfold iV;rw[dm,ay<|dE h.1.1.1,dm,ay<|dE h.1.1.2,dm,ay<|dE h.1.2,dm,ay<|dE h.2];rfl
section
variable(K:aq)(d:Cs)(k:aB)
def eO(H:Hp)(a pb ps:ak)(W:rm):Prop:=∃dx vk vw vb vs,H a=L (.ins d.C dx<|iV vk (.ref pb) (.ref ps) vw)/\RK d.K k H vk ()/\Cn K k H vw W.walls/\H pb=L (.lst vb)/\cf (ck K d.B k H) vb W.bodies/\H ps=L (.lst vs)/\cf (i8 K d.S k H) vs W.springs/\pb≠ps/\oo W.bodies.length W.springs/\W.bodies.length<=4096/\W.springs.length<=8192
def eS:bO rm:=λH v W=>∃a pb ps,v= .ref a/\eO K d k H a pb ps W
end
section
variable{K:aq}{d:Cs}{k:aB}{H H':Hp}{a pb ps:ak}{W:rm}
theorem Ki(h:ck K d.B k H v b)(t:cp H H')(i:∀b dx fs,H b=L (.ins d.B dx fs)->H' b=L (.ins d.B dx fs)):ck K d.B k H' v b:=by
 obtain⟨a,dx,v0,v1,v2,v3,v4,v5,v6,e,h,h0,h1,h2,h3,h4,h5,h6⟩:=h;exact⟨a,dx,v0,v1,v2,v3,v4,v5,v6,e,i _ _ _ h,du.up t h0,cO.up t h1,cO.up t h2,qt.up t h3,cO.up t h4,cO.up t h5,cO.up t h6⟩
theorem NP(h:i8 K d.S k H v s)(t:cp H H')(i:∀b dx fs,H b=L (.ins d.S dx fs)->H' b=L (.ins d.S dx fs)):i8 K d.S k H' v s:=by
 obtain⟨a,dx,v2,v3,v4,v5,v6,e,h,h2,h3,h4,h5,h6⟩:=h;exact⟨a,dx,v2,v3,v4,v5,v6,e,i _ _ _ h,cO.up t h2,cO.up t h3,du.up t h4,du.up t h5,du.up t h6⟩
structure Jv(d:Cs)(H H':Hp):Prop where
 t:cp H H'
 k:∀b dx fs,H b=L (.ins d.K dx fs)->H' b=L (.ins d.K dx fs)
 b:∀b dx fs,H b=L (.ins d.B dx fs)->H' b=L (.ins d.B dx fs)
 s:∀b dx fs,H b=L (.ins d.S dx fs)->H' b=L (.ins d.S dx fs)
theorem _root_.L2.az.ins(s:az H H'):Jv d H H':=⟨s.i.1,λ_ _ _=>s _ _,λ_ _ _=>s _ _,λ_ _ _=>s _ _⟩
theorem eO.CT(h:eO K d k H a pb ps W)(i:Jv d H H')(ha:∀o,H a=L o->H' a=L o)(hb:∀o,H pb=L o->H' pb=L o)(hs:∀o,H ps=L o->H' ps=L o):eO K d k H' a pb ps W:=by
 obtain⟨dx,vk,vw,vb,vs,h1,⟨hk,b,dk,e,h2⟩,h3,h4,h5,h6,h7,h8⟩:=h;exact⟨dx,vk,vw,vb,vs,ha _ h1,⟨hk,b,dk,e,i.k _ _ _ h2⟩,qw _ _ _ _ i.t h3,hb _ h4,h5.imp λv x h=>Ki h i.t i.b,hs _ h6,h7.imp λv x h=>NP h i.t i.s,h8⟩
theorem eO.same(h:eO K d k H a pb ps W)(s:az H H'):eO K d k H' a pb ps W:=h.CT s.ins (λ_=>s _ _) (λ_=>s _ _) λ_=>s _ _
theorem fk:cV<|eS K d k:=λ_ _ _ _ s⟨a,pb,ps,e,h⟩=>⟨a,pb,ps,e,h.same s⟩
theorem eO.yM(h:eO K d k H a pb ps W):bS k:=by obtain⟨dx,vk,vw,vb,vs,h1,h2,_⟩:=h;exact h2.1
theorem eO.ok(h:eO K d k H a pb ps W):oo W.bodies.length W.springs/\W.bodies.length<=4096/\W.springs.length<=8192:=by obtain⟨dx,vk,vw,vb,vs,_,_,_,_,_,_,_,_,h⟩:=h;exact h
section
variable{mg:ax->aw aE}{E:XK}{σ:L2.St}{te:TE}{M:ak}
theorem HM(n:G' m=ao)(h:eS K d k H v W):∃a dx fs,v= .ref a/\H a=L (.ins d.C dx fs)/\fs.lookup m=ah:=by
 obtain⟨a,pb,ps,e,dx,vk,vw,vb,vs,h1,_⟩:=h;exact⟨a,dx,_,e,h1,EA n⟩
theorem uA(T:Tx K mg d.C "Scene" ou)(h:NT M E (eS K d k) (L W) σ H te):NT M E (RK d.K k) (L ()) σ H<|cZ K te "kind":=gw h λ_ _⟨a,pb,ps,e,dx,vk,vw,vb,vs,h1,h2,h3,h4,h5,h6,h7,h8⟩=>⟨a,d.C,dx,_,vk,e,h1,T.cl,T.na _ dk,by unfold iV;sleep 1,h2⟩
theorem Ba(T:Tx K mg d.C "Scene" ou)(h:NT M E (eS K d k) (L W) σ H te):NT M E (vP K d.B k) (L W.bodies) σ H<|cZ K te "bodies":=gw h λ_ _⟨a,pb,ps,e,dx,vk,vw,vb,vs,h1,h2,h3,h4,h5,h6,h7,h8⟩=>⟨a,d.C,dx,_,.ref pb,e,h1,T.cl,T.na _ dk,by unfold iV;sleep 1,⟨pb,vb,J,SqL.of h4,h5⟩,h8.2.2.1⟩
theorem L7(T:Tx K mg d.C "Scene" ou)(h:NT M E (eS K d k) (L W) σ H te):NT M E (RL K<|i8 K d.S k) (L W.springs) σ H<|cZ K te "springs":=gw h λ_ _⟨a,pb,ps,e,dx,vk,vw,vb,vs,h1,h2,h3,h4,h5,h6,h7,h8⟩=>⟨a,d.C,dx,_,.ref ps,e,h1,T.cl,T.na _ dk,by unfold iV;sleep 1,ps,vs,J,SqL.of h6,h7⟩
end
end
def tM(k:aB)(l:ag af):aw<|ag af:=if l.all (jv k)=ao then L l else ah
section
variable{K:aq}{k:aB}
def xS(K:aq)(k:aB):bO<|ag af:=λH v l=>RL K (RX k) H v l/\l.length<=4096
theorem yQ:cV<|RX k:=λ_ _ _ _ _ h=>h
theorem wM:cV<|xS K k:=λ_ _ _ _ s h=>⟨cw yQ _ _ _ _ s h.1,h.2⟩
def Ck(K:aq)(k:aB)(H0:Hp):bO (aw<|ag af):=λH v o=>match o with
 |none=>v= .cE
 |some l=>jF H0 (RC K k) H v l
theorem zo{R:bO α}{xs:ag α}(h:jF H0 R H v xs):RL K R H v xs:=let⟨p,vs,e,h,a,_⟩:=h;⟨p,vs,e,SqL.of h,a⟩
theorem Sd:lT<|RO K k:=λ_ _ _ x s h=>match x,h with
 |none,h=>h
 |some _,h=>du.up s h
theorem PH:∀{vs:ag V}{l:ag af},cf (RO K k H) vs (l.map<|oy k)->(∀y∈vs,y= .cE\/ ∃a ys,y= .ref a/\cD K H a ys)/\vs.any GI= !l.all (jv k)/\(l.all (jv k)=ao->cf (RC K k H) vs l)
 |[],[],_=>⟨(λ_ h=>nomatch h),J,λ_=>cg⟩
 |[],_::_,h=>h.elim
 |_::_,[],h=>h.elim
 |v::vs,x::l,h=>by
  obtain⟨i1,i2,i3⟩:=PH h.2;have h1:=h.1;rw[xH,List.all_cons,i2];unfold oy at h1;by_cases e:jv k x=ao
  ·rw[aH e] at h1
   obtain⟨⟨a,rfl,ha⟩,f⟩:=id h1;refine⟨λy hy=>?_,by rw[e];rfl,λz=>⟨h1,i3 (by rw[e] at z;exact z)⟩⟩;rcases List.mem_cons.mp hy with rfl|hy
   ·exact .inr ⟨a,_,J,ha⟩
   ·exact i1 y hy
  ·rw[ay e] at h1
   subst h1;rw[Bool.not_eq_true] at e;refine⟨λy hy=>?_,by rw[e];rfl,λz=>by rw[e] at z;cases z⟩;rcases List.mem_cons.mp hy with rfl|hy
   ·exact .inl J
   ·exact i1 y hy
end
abbrev sS(j:af):dr:=rX (aN 96) j
section
variable{P:cN}{w:World}{K:aq}{mg:ax->aw aE}{base:b9}{d:Cs}
theorem DP:kI "from_bits":=pK _ dk
theorem L9(h0:NT M E (RK CK k) (L ()) σ H te)(h1:NT M E (RX k) (L x) σ H t1):NT M E (RO K k) (L<|oy k x) σ H (eu CK "from_bits" (Nv K M CK k) [] E te<|aU t1 b8):=oF (f:=λx=>L<|oy k x.2.1) h0 aM (λ_ _=>uP DP.1 DP.2.1 DP.2.2.1 DP.2.2.2.1 DP.2.2.2.2)<|aF yQ h1 bQ
abbrev NH(K:aq)(d:Cs)(k:aB):Sp:=EI d.F (aQ (eS K d k)<|aQ (xS K k) cq) (λH _ _=>Ck K k H) λx=>L<|tM k x.2.1
theorem MS:bE ["self","row","numbers","bits"] ["self","row"] (bw<|sS 1):=fs
theorem ok_readNumbers(F:bz K "read_numbers" "Scene.read_numbers" (sS 1) f fd)(TK:i' K mg d.F d.K)(T:Tx K mg d.C "Scene" ou)(G1:Gm K d.K "from_bits" "Kind.from_bits" (sK 1) f1 bZ ["self","bits"])(k:aB):aD P w K mg base (aO P w d.F) 10 f fd ["self","row"]<|NH K d k:=by
 have O1:aD P w K mg base (aO P w d.F) 1 f1 bZ _ _:=(Td G1.F TK k).gr;refine F.oc MS λH Q E hr h=>?_;obtain⟨⟨W,l,_⟩,⟨w1,r1,rfl,h1,w2,r2,rfl,⟨h2,hl⟩,rfl⟩,kk⟩:=h
 refine⟨_,aG (Bj (i:=2) (own:=[("bits",3)]) (te:=eu d.K "from_bits" _ [] E (cZ K _ "kind") _) J J J jM J MS.nd J J (BF J J J J) (jf<|O 1) bk (λ_ _ _ _ _=>ej 3 MS.nd) (λ_ _ _ _ _=>jh) λ_ _ _ _ _=>bV (bh<|O 0) TK.cl G1.aJ O1 (hr.aV dc) G1.b .nil jO (bu<|O 3))
  (aR (bg<|mw (dB (op_in_none hr.units) nV (O 2)<|by with_unfolding_all rfl) nV<|O 2)),?_⟩
 have ni:NT d.F E _ _ [L w1,L w2,ah,ah] H _:=(SW (i:=3) (vs:=[3]) (R:=RO K k) Sd.i.mD Sd.i.m yQ (aj (i:=1) J (cw yQ) h2) (dJ hl dc) (λ_=>J) λU v y s _ r=>L9 (uA T (aj (i:=0) J fk<|fk.up s h1))<|aj (i:=3) J yQ r).eq<|Bw.lN _;refine jP ni λu U s1⟨p,vs,e,hp,ha,hn⟩=>?_;subst e;obtain⟨a1,a2,a3⟩:=PH ha;refine⟨_,J,p,vs,J,J,SqL.of hp,a1,_,J,d4 (λc=>?_) λc=>?_⟩
 ·rw[a2] at c
  exact kk.ok U _ _ s1 J (by unfold tM;rw[ay (by intro z;rw[z] at c;cases c)];rfl)
 ·rw[a2] at c
  have c:l.all (jv k)=ao:=by simpa using c
  exact⟨_,J,kk.ok U _ _ s1 J (by unfold tM;rw[aH c];exact⟨p,vs,J,hp,a3 c,hn⟩)⟩
def Fy(K:aq)(k:aB):bO<|ag af:=λH v l=>RL K (RC K k) H v l/\l.length<=30000
theorem LN:cV<|Fy K k:=λ_ _ _ _ s h=>⟨cw aI _ _ _ _ s h.1,h.2⟩
abbrev Nq(K:aq)(d:Cs)(k:aB):Sp:=c7 d.F (aQ (eS K d k)<|aQ (Fy K k) cq) (fI RI) λx=>L<|Rb49Neutral.ints x.2.1
theorem MK:bE ["self","numbers","x"] ["self","numbers"] (bw<|sS 2):=fs
theorem ok_allBits(F:bz K "all_bits" "Scene.all_bits" (sS 2) f fd)(TK:i' K mg d.F d.K)(T:Tx K mg d.C "Scene" ou)(G1:Gm K d.K "to_bits" "Kind.to_bits" (sK 2) f1 bZ ["self","x"])(k:aB):aD P w K mg base (aO P w d.F) 10 f fd ["self","numbers"]<|Nq K d k:=by
 have O1:aD P w K mg base (aO P w d.F) 1 f1 bZ _ _:=(Tj G1.F TK k).gr;refine F.oc MK λH Q E hr h=>?_;obtain⟨⟨W,l,_⟩,⟨w1,r1,rfl,h1,w2,r2,rfl,⟨h2,hl⟩,rfl⟩,kk⟩:=h;refine⟨_,aR<|bg (oH (own:=[("x",2)]) (te:=eu d.K "to_bits" _ [] E (cZ K _ "kind") _) J J J jM J MK.nd (jf<|O 1) bk (λ_ _ _ _ _=>ej 2 MK.nd) (λ_ _ _ _ _=>jh) λ_ _ _ _ _=>bV (bh<|O 0) TK.cl G1.aJ O1 (hr.aV dc) G1.b .nil jO (bu<|O 2)),?_⟩;exact kk.by ((Ho (λ_ _ _ _ _ _ _ h=>h) ia aI (aj J (cw aI) h2) (dJ hl dc) (λ_=>J) λU v y s _ r=>Mb (uA T (aj J fk<|fk.up s h1))<|aj J aI r).eq<|Bw.lN _)
abbrev Nw(K:aq)(d:Cs)(k:aB):Sp:=c7 d.F (aQ (eS K d k)<|aQ RI cq) RB λx=>L<|decide (0<=x.2.1)&&decide (x.2.1<(x.1.bodies.length))
abbrev Ny(K:aq)(d:Cs)(k:aB):Sp:=c7 d.F (aQ (eS K d k) (aQ RI<|aQ RI cq)) RB λx=>L<|fE x.1 x.2.1 x.2.2.1
theorem scHB:bE ["self","i"] ["self","i"] (bw<|sS 3):=fs
theorem scHBs:bE ["self","first","n"] ["self","first","n"] (bw<|sS 4):=fs
theorem D1(T:Tx K mg d.C "Scene" ou)(h:NT M E (eS K d k) (L W) σ H te):NT M E RI (L W.bodies.length) σ H (xy (λxs H Q=>∃p ys,xs=[.ref p]/\(SqL K H p ys\/cD K H p ys)/\Q (.int ys.length) H)<|aU (cZ K te "bodies") b8):=D2 ((Ba T h).cW λ_ _ _ h=>h.1)
theorem ok_hasBody(F:bz K "has_body" "Scene.has_body" (sS 3) f fd)(TC:jq mg)(T:Tx K mg d.C "Scene" ou)(k:aB):aD P w K mg base (aO P w d.F) 10 f fd ["self","i"]<|Nw K d k:=by
 refine F.oc scHB λH Q E hr h=>?_;obtain⟨⟨W,i,_⟩,⟨w1,r1,rfl,h1,w2,r2,rfl,h2,rfl⟩,kk⟩:=h;refine⟨_,aR<|bg (xf (ke Mg a_ (O 1)<|cT _) (sD<|ke lG (O 1) (jy ox J TC.bG pA<|bu (bh<|O 0))<|cT _)),?_⟩;have v0:NT d.F E _ _ [L w1,L w2] H<|au 0:=aj J fk h1;have v1:NT d.F E RI _ [L w1,L w2] H<|au 1:=aj J ia h2;exact kk.by (A8 (jN (g:=λi j=>decide (i<=j)) fG v1) λ_=>jN (g:=λi j=>decide (i<j)) v1<|D1 T v0)
theorem ok_hasBodies(F:bz K "has_bodies" "Scene.has_bodies" (sS 4) f fd)(TC:jq mg)(T:Tx K mg d.C "Scene" ou)(k:aB):aD P w K mg base (aO P w d.F) 10 f fd ["self","first","n"]<|Ny K d k:=by
 refine F.oc scHBs λH Q E hr h=>?_;obtain⟨⟨W,i,n,_⟩,⟨w1,r1,rfl,h1,w2,r2,rfl,h2,w3,r3,rfl,h3,rfl⟩,kk⟩:=h;refine⟨_,aR (bg (xf (ke xb (O 1) a_<|cT _) (xf (ke xb (O 2) a_<|cT _)<|sD (ke Mg (bL fu (O 1)<|O 2) (jy ox J TC.bG pA<|bu (bh<|O 0))<|cT _)))),?_⟩;have v0:NT d.F E _ _ [L w1,L w2,L w3] H<|au 0:=aj J fk h1;have v1:NT d.F E RI _ [L w1,L w2,L w3] H<|au 1:=aj J ia h2;have v2:NT d.F E RI _ [L w1,L w2,L w3] H<|au 2:=aj J ia h3;exact kk.by (A8 (jN (g:=λi j=>decide (j<=i)) v1 fG) λ_=>A8 (jN (g:=λi j=>decide (j<=i)) v2 fG) λ_=>jN (g:=λi j=>decide (i<=j)) (Hn v1 v2)<|D1 T v0)
end
end BW
namespace BW
open PySem PySem.Spec PyProof.Rows L2
open Bw (bS cQ bf cn ba fE nF tQ n9)
structure Kept(H H':Hp)(a pb ps gg jA:ak):Prop where
 same:∀c o,H c=L o->c≠a->c≠pb->c≠ps->H' c=L o
 b:gg=pb\/H gg=ah
 s:jA=ps\/H jA=ah
def xR(_:Hp):bO Pj:=λ_ v x=>v= .int x.value/\x.out=[]
def vO(H0:Hp):bO Pj:=λH v x=>∃p,v= .ref p/\H0 p=ah/\H p=L (.lst<|(x.value::Rb49Neutral.ints x.out).map V.int)
def p_(K:aq)(d:Cs)(k:aB)(A:fV τ)(cl:τ->Fz)(RA:Hp->bO Pj):Sp:=λvs H Q _=>∃a pb ps W t r,vs= .ref a::r/\eO K d k H a pb ps W/\A H r t/\ ∀H' v gg jA W',(cH k (L W)<|cl t).1=L W'->Kept H H' a pb ps gg jA->eO K d k H' a gg jA W'->RA H H' v (cH k (L W)<|cl t).2->Q v H'
section
variable{K:aq}{d:Cs}{k:aB}{H H':Hp}{a pb ps:ak}{W:rm}{c:Fz}{Q:VK}{E:XK}{n:ae}{M:ak}
theorem Kept.pure(s:az H H'):Kept H H' a pb ps pb ps:=⟨λ_ _ h _ _ _=>s _ _ h,.inl J,.inl J⟩
theorem nY(sc:eO K d k H a pb ps W)(kk:∀H' v gg jA W',(cH k (L W) c).1=L W'->Kept H H' a pb ps gg jA->eO K d k H' a gg jA W'->xR H H' v (cH k (L W) c).2->Q v H')
 (e:cH k (L W) c=(L W,⟨n,[]⟩)) (s:az H H'):Q (.int n) H':=kk H' _ pb ps W (by rw[e]) (Kept.pure s) (sc.same s) (by rw[e];exact⟨J,J⟩)
theorem PD:∀{vs:ag V}{l:ag ae},cf (RI H) vs l->vs=l.map V.int
 |[],[],_=>rfl
 |_::_,_::_,h=>by rw[kr,<-PD h.2,show _=_ from h.1]
theorem oM{l:ag af}(sc:eO K d k H a pb ps W)(kk:∀H' v gg jA W',(cH k (L W) c).1=L W'->Kept H H' a pb ps gg jA->eO K d k H' a gg jA W'->vO H H' v (cH k (L W) c).2->Q v H')
 (e:cH k (L W) c=(L W,⟨n,l⟩)):bW M (jF H RI) H (L<|n::Rb49Neutral.ints l) Q E:=⟨λH' v y s e2⟨p,vs,e3,hp,ha,hn⟩=>by
 cases e2
 rw[PD ha] at hp
 exact kk H' v pb ps W (by rw[e]) (Kept.pure s) (sc.same s) (by rw[e];exact⟨p,e3,hn,hp⟩),λ_ _ e=>nomatch e⟩
end
section
variable{K:aq}{C:ak}{E:XK}{σ:L2.St}{H:Hp}{te ta tb:TE}
theorem Hu{R:bO α}{xs:ag α}(m:cV R)(h:NT C E (RL K R) (L xs) σ H te)(hl:NT C E fC (L i) σ H ta)(hh:NT C E fC (L j) σ H tb)(hj:j<=xs.length):NT C E (jF H R) (L ((xs.drop i).take<|j-i)) σ H (BG (Bl K) te (qO ta)<|qO tb):=λU Q s k=>by
 refine(h.at_ s).go λv H2 s2 q=>(hl.at_<|s.trans s2).go λu1 H3 s3 q3=>⟨_,q3,(hh.at_<|(s.trans s2).trans s3).go λu2 H4 s4 q4=>⟨_,q4,?_⟩⟩;obtain⟨p,vs,rfl,hp,ha⟩:=cw m _ _ _ _ (s3.trans s4) q;have dG:=ha.bG;refine⟨p,vs,J,hp,λl hn=>k.ok _ _ _ (((s2.trans s3).trans s4).trans<|az.new hn) J ⟨l,_,J,bp,?_,(((s.trans s2).trans s3).trans s4).free hn⟩⟩;rw[Ar om];exact((ha.drop i).take _).imp λv x=>m _ _ _ _<|az.new hn
theorem yY:NT C E fC (L n) σ H (tC<|.int n):=iH ib J
theorem yS(h:NT C E (λ_ v _=>decide (v= .cE)=b) (L ()) σ H te):NB b σ H (IU<|bY (λx y H Q=>y= .cE/\Q (.bl<|decide (x= .cE)) H) te<|tC .cE):=λU Q s k=>(h.at_ s).go λv H2 s2 q=>⟨J,_,J,by rw[show decide _=b from q];exact k H2 s2⟩
theorem r4l_of(h:RL K (RC K k) H v [w,x,y,z]):tE K k H v ⟨w,x,y,z⟩:=by
 obtain⟨p,vs,rfl,hp,ha⟩:=h;obtain⟨a,b,c,d,rfl,h1,h2,h3,h4⟩:=Lz ha;exact⟨p,a,b,c,d,J,.inl hp,h1,h2,h3,h4⟩
def XW(H0:Hp)(R:bO α):bO α:=λH v x=>R H v x/\ ∃c,v= .ref c/\H0 c=ah
theorem nt_makeF{A:fV τ}{t:aw τ}{ta:TA}{f:τ->aw α}(h:NA C E A t σ H ta):NT C E (XW H R) (t.bind f) σ H<|NY D (uY C D A R f) [] E ta:=λU Q s k=>
 h U _ s ⟨λH2 vs y s2 e q=>λx dx n0 n1 n2=>by
  have k2:bW C _ H2 (f y) Q E:=(k.at_ s2).eq (by rw[e];rfl)
  refine⟨H2,x,dx,y,vs,by rw[o8],bp,(az.new n1).trans (az.new<|by rw[bI<|dy n2];exact n0),n0,q,λH' z s' e' r'=>⟨J,k2.ok H' _ z s' e' ⟨r',x,J,(s.trans s2).free n0⟩⟩,k2.no⟩,λH2 s2 e=>k.no H2 s2 (by rw[e];rfl)⟩
end
section
variable(P:cN)(w:World)(K:aq)(mg:ax->aw aE)(base:b9)(d:Cs)
instance{K:aq}{d:Cs}{A:fV τ}{cl:τ->Fz}[q:LR A n]:LS (p_ K d k A cl RA)<|n+1:=⟨λ⟨_,_,_,_,_,_,e,_,h,_⟩=>e▸gH (·+1) (q.l h)⟩
def kX(l:af)(x:ax)(ps:ag ax)(sp:aB->Sp):Prop:=∃(f:ak)(fd:cX),o_ K d.C x f/\Binds K fd ps []/\ ∀k,aD P w K mg base (aO P w d.F) l f fd ps<|sp k
structure SX:Prop where
 TC:jq mg
 TK:i' K mg d.F d.K
 T:Tx K mg d.C "Scene" ou
 TB:iM K mg d.B
 mB:mg "Body"=L (.ref d.B)
 B:∃f fd,Mk K d.B f/\Binds K fd ["self","numbers"] []/\ ∀k,aD P w K mg base (aO P w d.F) 10 f fd ["self","numbers"] (EH K d.F d.B k)
 tw:∃f fd,o_ K d.B "twenty" f/\Binds K fd ["self"] []/\ ∀k,aD P w K mg base (aO P w d.F) 10 f fd ["self"] (u_ K d.F d.B k)
 mS:mg "Spring"=L (.ref d.S)
 S:∃f fd,Mk K d.S f/\Binds K fd ["self","first","second","numbers"] []/\ ∀k,aD P w K mg base (aO P w d.F) 12 f fd ["self","first","second","numbers"] (NI K d.F d.S k)
 rn:kX P w K mg base d 10 "read_numbers" ["self","row"] λk=>NH K d k
 ab:kX P w K mg base d 10 "all_bits" ["self","numbers"] λk=>Nq K d k
 hb:kX P w K mg base d 10 "has_body" ["self","i"] λk=>Nw K d k
 yB:kX P w K mg base d 10 "has_bodies" ["self","first","n"] λk=>Ny K d k
 fb:pd P w K mg base d.F d.K "from_bits" ["self","bits"] λk=>Nv K d.F d.K k
 nb:∀k,pd P w K mg base d.F d.K "nearest_bits" ["self","x"] λj=>ND K d.F d.K k j
 PN:∃f fd,Gf K mg "is_below" qH f fd ["x","y"]
 any:cU P w K mg base d.F 10 "any_below_zero" ["numbers"] λk=>Np K d.F k
 us:cU P w K mg base d.F 12 "is_usable_turn" ["kind","t"] λk=>Vw K d.F d.K k
 R_:cU P w K mg base d.F 10 "made_one_long" ["kind","t"] λk=>Iw K d.F d.K k (yc k)
 ip:cU P w K mg base d.F 10 "is_number_to_put" ["what"] λ_=>Vj d.F
 ss:cU P w K mg base d.F 38 "several_steps" ["kind","bodies","springs","walls","n","dt"] λk=>IE K d.F d.K d.B d.S k
 V1:cU P w K mg base d.F 34 "ten_sums" ["kind","bodies","springs"] λk=>IG K d.F d.K d.B d.S k
 bx:cU P w K mg base d.F 20 "box_of" ["bodies"] λk=>Nr K d.F d.B k
 sl:cU P w K mg base d.F 20 "slow_ones" ["kind","bodies","limit"] λk=>NJ K d.F d.K d.B k
 pp:cU P w K mg base d.F 12 "point_place" ["kind","body","r"] λk=>ID K d.F d.K d.B k
 wi:cU P w K mg base d.F 14 "with_number" ["body","what","x"] λk=>Vx K d.F d.B k
 cNR:Gi mg "NO_ROOM" (-1)
 cNB:Gi mg "NO_BODY" (-1)
 cOR:Gi mg "OUT_OF_RANGE" (-2)
 cBN:Gi mg "BAD_NUMBER" (-3)
 cSF:Gi mg "SOMETHING_FAILS" (-5)
 cMB:Gi mg "MOST_BODIES" 4096
 cMS:Gi mg "MOST_SPRINGS" 8192
 cMT:Gi mg "MOST_STEPS" 1000000
 P5:Gi mg "MOST_TOLD" 4096
 cB:Gi mg "BODY_NUMBERS" 20
 Ss:d.K≠d.C
 Sr:d.B≠d.C
 Su:d.S≠d.C
end
section
variable{P:cN}{w:World}{K:aq}{mg:ax->aw aE}{base:b9}{d:Cs}{k:aB}
section
variable{E:XK}{σ:L2.St}{H:Hp}{te t1 t2:TE}{W:rm}
theorem D4(h0:NT d.F E (eS K d k) (L W) σ H te)(h1:NT d.F E (xS K k) (L l) σ H t1):NT d.F E (Ck K k H) (L<|tM k l) σ H (eu d.C "read_numbers" (NH K d k) [] E te<|aU t1 b8):=λU Q s kk=>
 (h0.at_ s).go λv H2 s2 q=>by
   obtain⟨a,dx,fs,e1,e2,e3⟩:=HM (m:="read_numbers") dk q;refine⟨a,dx,fs,e1,e2,e3,(h1.at_<|s.trans s2).go λu H3 s3 q3=>⟨(W,l,()),⟨v,_,J,fk.up s3 q,u,_,J,q3,J⟩,λH' z y s' e r=>kk.ok H' z y ((s2.trans s3).trans s') e ?_,λ_ _ e=>nomatch e⟩⟩
   cases e
   unfold Ck at r⊢
   split
   ·next e=>rw[e] at r;exact r
   ·next e=>rw[e] at r;obtain⟨p,vs,r1,r2,r3,r4⟩:=r;exact⟨p,vs,r1,r2,r3,((s.trans s2).trans s3).free r4⟩
theorem Hg(h0:NT d.F E (eS K d k) (L W) σ H te)(h1:NT d.F E (Fy K k) (L l) σ H t1):NT d.F E (fI RI) (L<|Rb49Neutral.ints l) σ H (eu d.C "all_bits" (Nq K d k) [] E te<|aU t1 b8):=oF (f:=λx=>L<|Rb49Neutral.ints x.2.1) h0 fk (λ_ _=>HM dk)<|aF LN h1 bQ
theorem SR(h0:NT d.F E (eS K d k) (L W) σ H te)(h1:NT d.F E RI (L i) σ H t1):NT d.F E RB (L<|nF W i) σ H (eu d.C "has_body" (Nw K d k) [] E te<|aU t1 b8):=oF (f:=λx=>L<|decide (0<=x.2.1)&&decide (x.2.1<(x.1.bodies.length))) h0 fk (λ_ _=>HM dk)<|aF ia h1 bQ
theorem Hm(h0:NT d.F E (eS K d k) (L W) σ H te)(h1:NT d.F E RI (L i) σ H t1)(h2:NT d.F E RI (L n) σ H t2):NT d.F E RB (L<|fE W i n) σ H<|eu d.C "has_bodies" (Ny K d k) [] E te (aU t1<|aU t2 b8):=oF (f:=λx=>L<|fE x.1 x.2.1 x.2.2.1) h0 fk (λ_ _=>HM dk) (aF ia h1<|aF ia h2 bQ)
theorem SI(h:NT d.F E (RL K<|RC K k) (L l) σ H te)(hl:l.length<=4096):NT d.F E RB (L (l.any λv=>jH k v 0)) σ H (d8 (Np K d.F k) [] E<|aU te b8)\/ ¬bS k:=by
 by_cases hk:bS k
 ·exact .inl (cP (f:=λx=>L (x.1.any λv=>jH k v 0))<|nT (aF (cw aI) h bQ) λy e=>by cases e;exact⟨hk,hl⟩)
 ·exact .inr hk
end
def Fw(K:aq)(k:aB)(n:af):bO<|ag af:=λH v l=>xS K k H v l/\l.length=n
abbrev Va(K:aq)(d:Cs)(k:aB):Sp:=p_ K d k (aQ (Fw K k 20) cq) (λx=>.body x.1) xR
theorem ML:bE ["self","row","numbers","body"] ["self","row"] (bw<|sS 5):=fs
theorem Ru(h:Ck K k H0 H v<|L l):decide (v= .cE)=aK:=by
 obtain⟨p,vs,rfl,_⟩:=h;exact gW (λz=>nomatch z)
theorem eO.Yf(h:eO K d k H a pb ps W)(s:az H H')(hb:ck K d.B k H' (.ref c) b)(hl:W.bodies.length<4096)(hv:H pb=L (.lst vb)):eO K d k (aC H' pb (.lst<|vb++[.ref c])) a pb ps {W with bodies:=W.bodies++[b]}:=by
 obtain⟨dx,vk,vw,mI,vs,h1,h2,h3,h4,h5,h6,h7,h8,h9,wo,tY⟩:=h.same s;have e:mI=vb:=by rw[s _ _ hv] at h4;cases h4;rfl
 subst e;have i:fJ H'<|aC H' pb (.lst<|mI++[.ref c]):=fJ.aC (by rw[h4];trivial);refine⟨dx,vk,vw,mI++_,vs,i.2 _ _ _ _ h1,LK.up i h2,qw _ _ _ _ i.1 h3,bp,(h5.imp λv x=>uo _ _ _ _ i).snoc<|uo.up i hb,by rw[bI<|dy h8];exact h6,h7.imp λv x=>eJ _ _ _ _ i,h8,λs hs=>?_,?_,tY⟩
 ·have:=h9 s hs
  rw[iL];omega
 ·rw[iL]
  exact hl
theorem ok_addBody{f:ak}{fd:cX}(F:bz K "add_body" "Scene.add_body" (sS 5) f fd)(X:SX P w K mg base d)(k:aB):aD P w K mg base (aO P w d.F) 50 f fd ["self","row"]<|Va K d k:=by
 obtain⟨f1,bZ,M1,b1,O1⟩:=X.rn;obtain⟨f2,dg,m2,k2,b2,O2⟩:=X.any;obtain⟨f4,hU,M4,b4,O4⟩:=X.B;obtain⟨c1,e1⟩:=X.cBN;obtain⟨c2,e2⟩:=X.cMB;obtain⟨c3,e3⟩:=X.cNR;have T:=X.T;refine F.oc ML λH Q E hr h=>?_;obtain⟨a,pb,ps,W,⟨l,_⟩,r,rfl,hs,⟨w2,r2,rfl,⟨h2,wq⟩,rfl⟩,kk⟩:=h
 refine⟨_,aG (bA 2 ML.nd<|bV (O 0) T.cl M1 (O1 k) (hr.aV dc) b1 .nil aA (bu<|O 1))
  (aG (dU (PW.pt (pV (dB zc (O 2) nV<|cT _) (pV (iT (cJ (O2 k) (hr.aV dc) J m2 k2 b2 .nil aA<|bu (lJ lO (O 2) (gb a_)<|gb a_))) (uM<|uL (iT<|X.us.c k hr aA (bJ (bh<|O 0) (lJ lO (O 2) (gb a_)<|gb a_))))))) (aR (bg<|dF J e1 (v:=.int (-3)) ⟨c1,J⟩)) d5)
  (aG (dU (dB xb (jy ox J X.TC.bG pA<|bu (bh<|O 0)) (dF J e2 (v:=.int 4096) ⟨c2,J⟩)<|cT _) (aR (bg<|dF J e3 (v:=.int (-1)) ⟨c3,J⟩)) d5)
  (aG (bA 3 ML.nd<|oI M4 (O4 k) (hr.aV dc) J X.mB b4 .nil aA (bu<|O 2))
  (aG (dH (O 3) (X.R_.c k hr aA (bJ (bh<|O 0) (bh<|O 3))) J)
  (aG (pU (uJ vM Ce Cf AZ (bh<|O 0) (bu<|O 3)))
  (aR (bg<|bL ig (jy ox J X.TC.bG pA<|bu (bh<|O 0)) a_))))))),?_⟩
 have h1:eS K d k H (.ref a) W:=⟨a,pb,ps,J,hs⟩;have hk:=hs.yM;have wq:l.length=20:=wq;refine jP (D4 (E:=E) (σ:=[L<|.ref a,L w2,ah,ah]) (aj (i:=0) J fk h1)<|aj (i:=1) J wM h2) λu U s1 q1=>?_;by_cases hf:l.all (jv k)=ao
 ·have ef:tM k l=L l:=aH hf
  rw[ef] at q1;have TZ:RL K (RC K k) U u l:=zo q1;obtain⟨a0,a1,a2,a3,a4,a5,a6,a7,a8,a9,i_,mY,mZ,m6,m7,m8,m9,m_,nk,px,rfl⟩:=RS wq;have v0:∀{H2:Hp}{x:aw V},az H H2->NT d.F E (eS K d k) (L W) [L<|.ref a,L w2,L u,x] H2 (au 0):=λs=>aj J fk<|fk.up s h1;have v2:NT d.F E (RL K<|RC K k) (L [a0,a1,a2,a3,a4,a5,a6,a7,a8,a9,i_,mY,mZ,m6,m7,m8,m9,m_,nk,px]) [L<|.ref a,L w2,L u,ah] U<|au 2:=aj J (cw aI) TZ;have t1:NB aK [L<|.ref a,L w2,L u,ah] U _:=yS (C:=d.F) (E:=E) (aj (i:=2) J (λ_ _ _ _ _ h=>h)<|Ru q1);have Iq:NT d.F E (RL K<|RC K k) (L [a0,a1,a2,a3]) [L<|.ref a,L w2,L u,ah] U _:=(Hu aI (i:=0) (j:=4) v2 yY yY (by show 4<=20;decide)).cW λ_ _ _=>zo;have xp:NT d.F E (RL K<|RC K k) (L [a7,a8,a9,i_]) [L<|.ref a,L w2,L u,ah] U _:=(Hu aI (i:=7) (j:=11) v2 yY yY (by show 11<=20;decide)).cW λ_ _ _=>zo;have t2:NB ([a0,a1,a2,a3].any λv=>jH k v 0) [L<|.ref a,L w2,L u,ah] U _:=qA<|(SI Iq (by show 4<=4096;decide)).resolve_right λz=>z hk;have t3:NB (!n9 k ⟨a7,a8,a9,i_⟩) [L<|.ref a,L w2,L u,ah] U _:=wN (qA (cP (C:=d.F) (E:=E) (R:=RB) (t:=L ((),⟨a7,a8,a9,i_⟩,())) (f:=λx=>L<|n9 k x.2.1) (aF aM (uA T<|v0 s1)<|aF lE (xp.conv λ_ _=>r4l_of) bQ)));have be:=Bw.YR hf;refine iG (qy t1 λ_=>qy t2 λ_=>t3) (λc H2 s2=>?_) λc H2 s2=>?_
  ·rw[sU] at c
   exact nY hs kk (Bw.VA<|by rw[be,aH c])<|s1.trans s2
  ·rw[sU] at c
   rw[ay (by rw[c];decide)] at be;have hu:n9 k ⟨a7,a8,a9,i_⟩=ao:=by
    rw[zJ] at c;simpa using c.2
   obtain⟨q,hq⟩:=Bw.usable_unit hk hu;rw[hq] at be;have dN:=s1.trans s2;have tl:NB (decide (4096<=(W.bodies.length:ae))) [L<|.ref a,L w2,L u,ah] H2 _:=sj<|jN (g:=λi j=>decide (j<=i)) (D1 T<|v0 dN) fG;refine iG tl (λc H3 s3=>?_) λc H3 s3=>?_
   ·have c:4096<=(W.bodies.length:ae):=dE c
    exact nY hs kk (Bw.st_body_f be om)<|dN.trans s3
   ·have c:¬4096<=(W.bodies.length:ae):=uD c
    have gG:=dN.trans s3;have Mu:Ci K k H3 u [a0,a1,a2,a3,a4,a5,a6,a7,a8,a9,i_,mY,mZ,m6,m7,m8,m9,m_,nk,px]:=⟨.inl<|cw aI _ _ _ _ (s2.trans s3) TZ,J⟩;have nm:=nt_makeF (C:=d.F) (E:=E) (R:=ck K d.B k) (D:=d.B) (σ:=[L<|.ref a,L w2,L u,ah]) (t:=L ([a0,a1,a2,a3,a4,a5,a6,a7,a8,a9,i_,mY,mZ,m6,m7,m8,m9,m_,nk,px],())) (f:=λx=>L<|Ap x.1)<|aF DI (aj (i:=2) J DI Mu) bQ;refine jP nm λv H4 s4⟨rb,cb,ev,hcb⟩=>?_;subst ev;have gU:=gG.trans s4;have nu:NT d.F E (R4 K k) (L q) [L<|.ref a,L w2,L u,L<|.ref cb] H4 _:=(cP (t:=L ((),(⟨a7,a8,a9,i_⟩:tG),())) (f:=λx=>yc k x.2.1) (aF aM (uA T<|v0 gU)<|aF gu (wW X.TB<|aj (i:=3) J cu rb) bQ)).eq hq;refine VL X.TB nu J rb (λ_ _ e=>nomatch e) λy H5 ey sx rb5=>?_
    cases ey
    have lP:az H H5:=sx.base gU<|gG.free hcb;obtain⟨dx,vk,vw,vb,vs,g1,g2,g3,g4,g5,g6⟩:=id hs;have e6:H5 pb=L (.lst vb):=lP _ _ g4;have hl:vb.length<bH:=by rw[g5.bG];exact vJ hs.ok.2.1 dc
    refine⟨_,J,a,d.C,dx,_,.ref pb,J,lP _ _ g1,T.cl,T.na _ dk,(by unfold iV;sleep 1),.inl ⟨J,_,SqL.of e6⟩,_,J,pb,vb,_,J,J,e6,hl,?_⟩;have sc:=hs.Yf lP rb5 om g4;have Qs:=Bw.st_body_s (w:=W) be om;refine(Hn (C:=d.F) (E:=E) (σ:=[L<|.ref a,L w2,L u,L<|.ref cb]) (g:=λi j=>i-j) (D1 T<|aj (i:=0) J fk ⟨a,pb,ps,J,sc⟩) fG).go λv H7 s7 q7=>?_;have q7:v=_:=q7;subst q7;refine kk H7 _ pb ps _ (gH Fq Qs) ⟨λc o e n1 n2 n3=>s7 _ _ (by rw[bI n2];exact lP _ _ e),.inl J,.inl J⟩ (sc.same s7) ?_;rw[Qs];refine⟨gH V.int ?_,J⟩;rw[iL];show((W.bodies.length+1:af):ae)-1=((W.bodies.length:af):ae);omega
 ·have ef:tM k l=ah:=ay hf
  rw[ef] at q1;have q1:u= .cE:=q1;subst q1;refine iG (a:=ao) (λH2 Q2 s2 k2=>⟨_,J,J,_,J,pH<|k2 H2 sr⟩) (λ_ H2 s2=>?_) (λc=>nomatch c);exact nY hs kk (Bw.VA (Bw.YQ<|by simpa using hf))<|s1.trans s2
end
end BW
namespace BW
open PySem PySem.Spec PyProof.Rows L2
open Bw (bS cQ bf cn ba fE nF tQ n9)
section
variable{P:cN}{w:World}{K:aq}{mg:ax->aw aE}{base:b9}{d:Cs}{k:aB}
theorem list9{l:ag af}(h:l.length=9):∃a b c x y z s t r,l=[a,b,c,x,y,z,s,t,r]:=by
 obtain⟨a0,l0,rfl,g0⟩:=dQ h;obtain⟨a1,l1,rfl,g1⟩:=dQ g0;obtain⟨a2,l2,rfl,g2⟩:=dQ g1;obtain⟨a3,l3,rfl,g3⟩:=dQ g2;obtain⟨a4,l4,rfl,g4⟩:=dQ g3;obtain⟨a5,l5,rfl,g5⟩:=dQ g4;obtain⟨a6,l6,rfl,g6⟩:=dQ g5;obtain⟨a7,l7,rfl,g7⟩:=dQ g6;obtain⟨a8,l8,rfl,g8⟩:=dQ g7
 cases l8 with
 |nil=>exact⟨a0,a1,a2,a3,a4,a5,a6,a7,a8,J⟩
 |cons x t=>cases g8
theorem list6{l:ag af}(h:l.length=6):∃a b c x y z,l=[a,b,c,x,y,z]:=by
 obtain⟨a0,l0,rfl,g0⟩:=dQ h;obtain⟨a1,l1,rfl,g1⟩:=dQ g0;obtain⟨a2,l2,rfl,g2⟩:=dQ g1;obtain⟨a3,l3,rfl,g3⟩:=dQ g2;obtain⟨a4,l4,rfl,g4⟩:=dQ g3;obtain⟨a5,l5,rfl,g5⟩:=dQ g4
 cases l5 with
 |nil=>exact⟨a0,a1,a2,a3,a4,a5,J⟩
 |cons x t=>cases g5
theorem Ht(q:Ck K k H U u<|tM k l):(¬l.all (jv k)=ao/\u= .cE)\/(l.all (jv k)=ao/\jF H (RC K k) U u l/\decide (u= .cE)=aK):=by
 by_cases hf:l.all (jv k)=ao
 ·have ef:tM k l=L l:=aH hf
  rw[ef] at q;exact .inr ⟨hf,q,Ru q⟩
 ·have ef:tM k l=ah:=ay hf
  rw[ef] at q;exact .inl ⟨hf,q⟩
abbrev Vb(K:aq)(d:Cs)(k:aB):Sp:=p_ K d k (aQ RI (aQ RI<|aQ (Fw K k 9) cq)) (λx=>.spring x.1 x.2.1 x.2.2.1) xR
theorem Uw:bE ["self","i","j","row","numbers"] ["self","i","j","row"] (bw<|sS 6):=fs
theorem eO.Yg(h:eO K d k H a pb ps W)(s:az H H')(hb:i8 K d.S k H' v b)(ho:b.one<W.bodies.length/\b.other<W.bodies.length/\b.one≠b.other)(hl:W.springs.length<8192)(hv:H ps=L (.lst vs)):eO K d k (aC H' ps (.lst<|vs++[v])) a pb ps {W with springs:=W.springs++[b]}:=by
 obtain⟨dx,vk,vw,vb,vs',h1,h2,h3,h4,h5,h6,h7,h8,h9,wo,tY⟩:=h.same s;have e:vs'=vs:=by rw[s _ _ hv] at h6;cases h6;rfl
 subst e;have i:fJ H'<|aC H' ps (.lst<|vs'++[v]):=fJ.aC (by rw[h6];trivial);refine⟨dx,vk,vw,vb,vs'++[v],i.2 _ _ _ _ h1,LK.up i h2,qw _ _ _ _ i.1 h3,by rw[bI h8];exact h4,h5.imp λv x=>uo _ _ _ _ i,bp,(h7.imp λv x=>eJ _ _ _ _ i).snoc<|eJ.up i hb,h8,λs hs=>?_,wo,?_⟩
 ·rcases List.mem_append.mp hs with q|q
  ·exact h9 s q
  ·rw[List.mem_singleton] at q
   subst q;exact ho
 ·rw[iL]
  exact hl
theorem ok_addSpring{f:ak}{fd:cX}(F:bz K "add_spring" "Scene.add_spring" (sS 6) f fd)(X:SX P w K mg base d)(k:aB):aD P w K mg base (aO P w d.F) 50 f fd ["self","i","j","row"]<|Vb K d k:=by
 obtain⟨f1,bZ,M1,b1,O1⟩:=X.rn;obtain⟨f3,fh,M3,b3,O3⟩:=X.hb;obtain⟨f4,hU,M4,b4,O4⟩:=X.S;obtain⟨c1,e1⟩:=X.cBN;obtain⟨c2,e2⟩:=X.cMS;obtain⟨c3,e3⟩:=X.cNR;obtain⟨c4,e4⟩:=X.cOR;have T:=X.T;refine F.oc Uw λH Q E hr h=>?_;obtain⟨a,pb,ps,W,⟨i,j,l,_⟩,r,rfl,hs,⟨w2,r2,rfl,h2,w3,r3,rfl,h3,w4,r4,rfl,⟨h4,h9⟩,rfl⟩,kk⟩:=h
 refine⟨_,aG (dU (PW.pt (pV (uL (iT<|bV (O 0) T.cl M3 (O3 k) (hr.aV dc) b3 .nil aA (bu<|O 1)))<|pV (uL (iT<|bV (O 0) T.cl M3 (O3 k) (hr.aV dc) b3 .nil aA (bu<|O 2)))<|uM (dB iQ (O 1) (O 2)<|cT _))) (aR (bg<|dF J e4 (v:=.int (-2)) ⟨c4,J⟩)) d5)
  (aG (bA 4 Uw.nd<|bV (O 0) T.cl M1 (O1 k) (hr.aV dc) b1 .nil aA (bu<|O 3))
  (aG (dU (PW.pt (pV (dB zc (O 4) nV<|cT _) (uM<|iT (X.any.c k hr aA<|bu (lJ lO (O 4) (gb a_)<|gb a_))))) (aR (bg<|dF J e1 (v:=.int (-3)) ⟨c1,J⟩)) d5)
  (aG (dU (dB xb (jy ox J X.TC.bG pA<|bu (bh<|O 0)) (dF J e2 (v:=.int 8192) ⟨c2,J⟩)<|cT _) (aR (bg<|dF J e3 (v:=.int (-1)) ⟨c3,J⟩)) d5)
  (aG (pU (uJ vM Ce Cf AZ (bh<|O 0) (bu<|oI M4 (O4 k) (hr.aV dc) J X.mS b4 .nil aA (bF (O 1) (O 2)<|O 4))))
  (aR (bg<|bL ig (jy ox J X.TC.bG pA<|bu (bh<|O 0)) a_)))))),?_⟩
 have h1:eS K d k H (.ref a) W:=⟨a,pb,ps,J,hs⟩;have hk:=hs.yM;have h9:l.length=9:=h9;have h2:w2= .int i:=h2;have h3:w3= .int j:=h3;subst h2 h3;have v0:∀{H2:Hp}{x:aw V},az H H2->NT d.F E (eS K d k) (L W) [L<|.ref a,L<|.int i,L<|.int j,L w4,x] H2 (au 0):=λs=>aj J fk<|fk.up s h1;have v1:∀{H2:Hp}{x:aw V},NT d.F E RI (L i) [L<|.ref a,L<|.int i,L<|.int j,L w4,x] H2<|au 1:=aj J ia J;have v2:∀{H2:Hp}{x:aw V},NT d.F E RI (L j) [L<|.ref a,L<|.int i,L<|.int j,L w4,x] H2<|au 2:=aj J ia J;have t1:NB (!nF W i||(!nF W j||decide (i=j))) [L<|.ref a,L<|.int i,L<|.int j,L w4,ah] H _:=qy (wN (qA<|SR (v0<|az.refl H) v1)) λ_=>qy (wN (qA<|SR (v0<|az.refl H) v2)) λ_=>sj<|jN (g:=λi j=>decide (i=j)) v1 v2;refine iG t1 (λc U s1=>?_) λc U s1=>?_
 ·exact nY hs kk (Bw.st_spring_r c) s1
 have si:=Bw.st_spring_i (k:=k) (l:=l) c;have hI:=Bw.QX c;refine jP (D4 (E:=E) (v0 s1) (aj (i:=3) J wM<|wM.up s1 h4)) λu H2 s2 q2=>?_;have dN:=s1.trans s2;rcases Ht q2 with⟨hf,rfl⟩|⟨hf,q3,hN⟩
 ·refine iG (a:=ao) (λH3 Q3 s3 k3=>⟨_,J,J,_,J,pH<|k3 H3 sr⟩) (λ_ H3 s3=>?_) (λc=>nomatch c)
  rw[Bw.spring_bad<|by simpa using hf] at si;exact nY hs kk si<|dN.trans s3
 ·have T1:RL K (RC K k) H2 u l:=zo q3
  obtain⟨a0,a1,a2,a3,a4,a5,a6,a7,a8,rfl⟩:=list9 h9;have v4:NT d.F E (RL K<|RC K k) (L [a0,a1,a2,a3,a4,a5,a6,a7,a8]) [L<|.ref a,L<|.int i,L<|.int j,L w4,L u] H2<|au 4:=aj J (cw aI) T1;have t2:NB aK [L<|.ref a,L<|.int i,L<|.int j,L w4,L u] H2 _:=yS (C:=d.F) (E:=E)<|aj (i:=4) J (λ_ _ _ _ _ h=>h) hN;have Iq:NT d.F E (RL K<|RC K k) (L [a6,a7,a8]) [L<|.ref a,L<|.int i,L<|.int j,L w4,L u] H2 _:=(Hu aI (i:=6) (j:=9) v4 yY yY (by show 9<=9;decide)).cW λ_ _ _=>zo;have t3:=qA<|(SI Iq (by show 3<=4096;decide)).resolve_right λz=>z hk;rw[Bw.spring_eq hf] at si;refine iG (qy t2 λ_=>t3) (λc H3 s3=>?_) λc H3 s3=>?_
  ·rw[sU] at c
   rw[aH c] at si;exact nY hs kk si<|dN.trans s3
  ·rw[sU] at c
   rw[ay (by rw[c];decide)] at si;have gG:=dN.trans s3;have tl:NB (decide (8192<=(W.springs.length:ae))) [L<|.ref a,L<|.int i,L<|.int j,L w4,L u] H3 _:=sj<|jN (g:=λi j=>decide (j<=i)) (D2 (L7 T<|v0 gG)) fG;refine iG tl (λc H4 s4=>?_) λc H4 s4=>?_
   ·have c:8192<=(W.springs.length:ae):=dE c
    exact nY hs kk (si.trans<|aH (show 8192<=W.springs.length by omega))<|gG.trans s4
   ·have c:¬8192<=(W.springs.length:ae):=uD c
    have si:=si.trans<|ay (show¬8192<=W.springs.length by omega);have gU:=gG.trans s4;obtain⟨dx,vk,vw,vb,vs,g1,g2,g3,g4,g5,g6,g7,g8⟩:=id hs;have e6:H4 ps=L (.lst vs):=gU _ _ g6;have hl:vs.length<bH:=by rw[g7.bG];exact vJ hs.ok.2.2 dc
    refine⟨_,J,a,d.C,dx,_,.ref ps,J,gU _ _ g1,T.cl,T.na _ dk,(by unfold iV;sleep 1),.inl ⟨J,_,SqL.of e6⟩,?_⟩;have r9:R9 K k H4 u [a0,a1,a2,a3,a4,a5,a6,a7,a8]:=⟨.inl<|cw aI _ _ _ _ (s3.trans s4) T1,J⟩;have ni:NT d.F E fC (L i.toNat) [L<|.ref a,L<|.int i,L<|.int j,L w4,L u] H4<|au 1:=aj J ib (by show V.int i=V.int (i.toNat:ae);rw[BR hI.1]);have nj:NT d.F E fC (L j.toNat) [L<|.ref a,L<|.int i,L<|.int j,L w4,L u] H4<|au 2:=aj J ib (by show V.int j=V.int (j.toNat:ae);rw[BR hI.2.2.1]);have nm:=yX (R:=i8 K d.S k) (D:=d.S) (t:=L (i.toNat,j.toNat,[a0,a1,a2,a3,a4,a5,a6,a7,a8],())) (f:=λx=>L<|Vz x.1 x.2.1 x.2.2.1)<|aF ib ni (aF ib nj<|aF Sh (aj (i:=4) J Sh r9) bQ);refine nm.go λv H5 s5 rb=>?_;have lP:=gU.trans s5;refine⟨ps,vs,v,J,J,lP _ _ g6,hl,?_⟩;have sc:=hs.Yg lP rb ⟨by show i.toNat<_;omega,by show j.toNat<_;omega,by show i.toNat≠j.toNat;omega⟩ om g6;refine(Hn (C:=d.F) (E:=E) (σ:=[L<|.ref a,L<|.int i,L<|.int j,L w4,L u]) (g:=λi j=>i-j) (D2 (L7 T<|aj (i:=0) J fk ⟨a,pb,ps,J,sc⟩)) fG).go λv H7 s7 q7=>?_;have q7:v=_:=q7;subst q7;refine kk H7 _ pb ps _ (gH Fq si) ⟨λc o e n1 n2 n3=>s7 _ _ (by rw[bI n3];exact lP _ _ e),.inl J,.inl J⟩ (sc.same s7) ?_;rw[si];refine⟨gH V.int ?_,J⟩;rw[iL];show((W.springs.length+1:af):ae)-1=((W.springs.length:af):ae);omega
theorem Bt:iV v0 v1 v2 v3=([("kind",v0),("bodies",v1),("springs",v2),("walls",v3)]:ag<|ax×V):=by unfold iV;sleep 2
theorem sce_putW:aY "walls" v (iV v0 v1 v2 v3)=iV v0 v1 v2 v:=by rw[Bt,Bt];sleep 2
theorem sce_putB:aY "bodies" v (iV v0 v1 v2 v3)=iV v0 v v2 v3:=by rw[Bt,Bt];sleep 2
theorem Rr{fs jw:ag (ax×V)}(X:SX P w K mg base d)(h:H a=L (.ins d.C dx fs)):Jv d H (aC H a<|.ins d.C dx jw):=by
 have dZ:∀D,D≠d.C-> ∀b e f,H b=L (.ins D e f)->aC H a (.ins d.C dx jw) b=L (.ins D e f):=λD n b e f q=>by
  rw[bI<|eF q h λz=>by cases z;exact n J];exact q
 exact⟨cp.aC (by rw[h];trivial),dZ _ X.Ss,dZ _ X.Sr,dZ _ X.Su⟩
abbrev Vt(K:aq)(d:Cs)(k:aB):Sp:=p_ K d k (aQ (Fw K k 6) cq) (λx=>.walls x.1) xR
theorem Ih:bE ["self","row","numbers","k"] ["self","row"] (bw<|sS 7):=fs
theorem ok_setWalls{f:ak}{fd:cX}(F:bz K "set_walls" "Scene.set_walls" (sS 7) f fd)(X:SX P w K mg base d)(k:aB):aD P w K mg base (aO P w d.F) 50 f fd ["self","row"]<|Vt K d k:=by
 obtain⟨f1,bZ,M1,b1,O1⟩:=X.rn;obtain⟨f2,dg,G2⟩:=X.PN;have O2:aD P w K mg base (aO P w d.F) 5 f2 dg ["x","y"]<|oQ K d.F k:=(w9 G2.F k).gr.aV dc;obtain⟨c1,e1⟩:=X.cBN;have T:=X.T;refine F.oc Ih λH Q E hr h=>?_;obtain⟨a,pb,ps,W,⟨l,_⟩,r,rfl,hs,⟨w2,r2,rfl,⟨h2,h6⟩,rfl⟩,kk⟩:=h
 refine⟨_,aG (bA 2 Ih.nd<|bV (O 0) T.cl M1 (O1 k) (hr.aV dc) b1 .nil aA (bu<|O 1))
  (aG (dU (PW.pt (pV (dB zc (O 2) nV<|cT _) (uM<|iT (jy (Qb J) J X.TC.any boot_any (bu (oH (own:=[("k",3)]) (te:=d8 (oQ K d.F k) [] E (aU (bY (lL K) (au 2) _)<|aU (bY (lL K) (au 2)<|au 3) b8)) J J J jM J Ih.nd (zg J X.TC.range<|bu a_) bk (λ_ _ _ _ _=>ej 3 Ih.nd) (λ_ _ _ _ _=>jh) λ_ _ _ _ _=>cJ O2 (hr.aV dc) J G2.m G2.F.kp G2.b .nil jO (bJ (dY j9 (O 2) (bL fu (O 3) a_) λ_ _=>J)<|dY j9 (O 2) (O 3) λ_ _=>J))))))) (aR (bg<|dF J e1 (v:=.int (-3)) ⟨c1,J⟩)) d5)
  (aG (dH (O 0) (nU qi J X.TC.tuple rG (bu<|O 2)) J)
  (aR<|bg a_))),?_⟩
 have h1:eS K d k H (.ref a) W:=⟨a,pb,ps,J,hs⟩;have hk:=hs.yM;have h6:l.length=6:=h6;refine jP (D4 (E:=E) (aj (i:=0) J fk h1)<|aj (i:=1) J wM h2) λu U s1 q1=>?_;rcases Ht q1 with⟨hf,rfl⟩|⟨hf,q2,hN⟩
 ·refine iG (a:=ao) (λH3 Q3 s3 k3=>⟨_,J,J,_,J,pH<|k3 H3 sr⟩) (λ_ H3 s3=>?_) (λc=>nomatch c)
  exact nY hs kk (Bw.VB (Bw.walls_bad<|by simpa using hf))<|s1.trans s3
 ·have q2':RL K (RC K k) U u l:=zo q2
  obtain⟨a0,a1,a2,a3,a4,a5,rfl⟩:=list6 h6;have t2:NB aK [L<|.ref a,L w2,L u,ah] U _:=yS (C:=d.F) (E:=E)<|aj (i:=2) J (λ_ _ _ _ _ h=>h) hN
  have nl:NT d.F E (RL K RB) _ [L<|.ref a,L w2,L u,ah] U _:=(SU (i:=3) (vs:=[3]) (n:=3) (R:=RB) (λ_ _ _ _ _ _ _ h=>h) Si (aF ia fG bQ) dc (λ_=>J) λH2 j s2 hj=>by
   have v2:NT d.F E (RL K<|RC K k) (L [a0,a1,a2,a3,a4,a5]) ((c8 [L<|.ref a,L w2,L u,ah] [3]).set 3 (L<|.int (j:ae))) H2<|au 2:=aj J (cw aI) (cw aI _ _ _ _ s2 q2');have v3:NT d.F E fC (L j) ((c8 [L<|.ref a,L w2,L u,ah] [3]).set 3 (L<|.int (j:ae))) H2<|au 3:=aj J ib J;have ix:∀i,i<6->[a0,a1,a2,a3,a4,a5][i]? =L ([a0,a1,a2,a3,a4,a5].getD i 0):=λi hi=>by
    rw[BY,xI hi];rfl
   exact sy ((qB aI v2 (Hh v3<|yY (n:=3))<|ix (j+3) om).cW λ_ _ _=>dS hk)<|(qB aI v2 v3<|ix j om).cW λ_ _ _=>dS hk).eq<|Bw.lN _
  have t3:=qA ((SJ nl).eq<|by rw[any_map]);have we:=Bw.walls_eq hf;refine iG (qy t2 λ_=>t3) (λc H3 s3=>?_) λc H3 s3=>?_
  ·rw[sU] at c
   exact nY hs kk (Bw.VB<|by rw[we,aH c])<|s1.trans s3
  ·rw[sU] at c
   rw[ay (by rw[c];decide)] at we;have gG:=s1.trans s3;obtain⟨p,vs,rfl,hp,ha,_⟩:=q2;refine⟨_,J,p,vs,J,.inl ⟨SqL.of<|s3 _ _ hp,λt ht=>⟨_,J,?_⟩⟩⟩;have s4:az H3 (aC H3 t<|.tup vs):=az.new ht;have gU:=gG.trans s4;obtain⟨dx,vk,vw,vb,vs',g1,g2,g3,g4,g5,g6,g7,g8⟩:=hs.same gU;refine⟨a,d.C,dx,_,J,g1,T.cl,T.na _ dk,(by rw[Bt];show 4<1000;decide),?_⟩;rw[sce_putW];have i5:=Rr (jw:=iV vk (.ref pb) (.ref ps)<|.ref t) X g1;have DU:pb≠a:=eF g4 g1 (by intro z;cases z);have LY:ps≠a:=eF g6 g1 (by intro z;cases z);have r6:Cn K k (aC H3 t<|.tup vs) (.ref t)<|L (⟨a0,a1,a2⟩,⟨a3,a4,a5⟩):=.inr ⟨_,J,⟨t,J⟩,t,vs,J,cD.of bp,ha.imp λv x=>aI _ _ _ _<|s3.trans s4⟩;obtain⟨pE,b,dk,ek,hb⟩:=g2;refine kk _ _ pb ps _ (gH Fq<|Bw.VC we) ⟨λc o e n1 n2 n3=>by rw[bI n1];exact gU _ _ e,.inl J,.inl J⟩ ⟨dx,vk,.ref t,vb,vs',bp,⟨pE,b,dk,ek,i5.k _ _ _ hb⟩,qw _ _ _ _ i5.t r6,by rw[bI DU];exact g4,g5.imp λv x h=>Ki h i5.t i5.b,by rw[bI LY];exact g6,g7.imp λv x h=>NP h i5.t i5.s,g8⟩ ?_;rw[Bw.VC we];exact⟨J,J⟩
abbrev Vq(K:aq)(d:Cs)(k:aB):Sp:=p_ K d k (aQ RI<|aQ (RX k) cq) (λx=>.step x.1 x.2.1) xR
theorem UE:bE ["self","n","bits","dt"] ["self","n","bits"] (bw<|sS 8):=fs
theorem IK{dt:af}(h:Bw.jl k dt W n bs=L gB):gB.length=bs.length:=Bw.IK (λ_ _ e=>VD e) n bs gB h
theorem Rt(h:RO K k H v<|L x):decide (v= .cE)=aK:=by
 obtain⟨⟨p,rfl,_⟩,_⟩:=h;exact gW (λz=>nomatch z)
theorem ok_step{f:ak}{fd:cX}(F:bz K "step" "Scene.step" (sS 8) f fd)(X:SX P w K mg base d)(k:aB):aD P w K mg base (aO P w d.F) 50 f fd ["self","n","bits"]<|Vq K d k:=by
 obtain⟨f1,bZ,M1,b1,O1⟩:=X.fb;obtain⟨c1,e1⟩:=X.cBN;obtain⟨c2,e2⟩:=X.cMT;obtain⟨c3,e3⟩:=X.cSF;obtain⟨c4,e4⟩:=X.cOR;have T:=X.T;refine F.oc UE λH Q E hr h=>?_;obtain⟨a,pb,ps,W,⟨n,x,_⟩,r,rfl,hs,⟨w2,r2,rfl,h2,w3,r3,rfl,h3,rfl⟩,kk⟩:=h
 refine⟨_,aG (dU (PW.pt (pV (dB lG (O 1) a_<|cT _)<|uM (dB uF (O 1) (dF J e2 (v:=.int 1000000) ⟨c2,J⟩)<|cT _))) (aR (bg<|dF J e4 (v:=.int (-2)) ⟨c4,J⟩)) d5)
  (aG (bA 3 UE.nd (bV (bh<|O 0) X.TK.cl M1 (O1 k) (hr.aV dc) b1 .nil aA (bu<|O 2)))
  (aG (dU (dB zc (O 3) nV<|cT _) (aR (bg<|dF J e1 (v:=.int (-3)) ⟨c1,J⟩)) d5)
  (aG (Ef (tb:=λHc=>xl K (au 0) (d8 (IE K d.F d.K d.B d.S k) [] (λ_ _ H'=>Hc H') (aU (cZ K (au 0) "kind")<|aU (cZ K (au 0) "bodies") (aU (cZ K (au 0) "springs")<|aU (cZ K (au 0) "walls") (aU (au 1)<|aU (au 3) b8)))) "bodies") J J J X.TK.rM J X.TK.r_
    (λHc pl=>aR (dH (O 0) (X.ss.c k hr D' (dz (bh<|O 0) (dz (bh<|O 0) (dz (bh<|O 0)<|bF (bh<|O 0) (O 1)<|O 3)))) J)) λpl e=>aR (bg<|dF J e3 (v:=.int (-5)) ⟨c3,J⟩))
  (aR<|bg a_)))),?_⟩
 have h1:eS K d k H (.ref a) W:=⟨a,pb,ps,J,hs⟩;have hk:=hs.yM;have h2:w2= .int n:=h2;subst h2;have h3:RX k H w3 x:=h3;have v1:∀{H2:Hp}{y:aw V},NT d.F E RI (L n) [L<|.ref a,L<|.int n,L w3,y] H2<|au 1:=aj J ia J;have v0:∀{E:XK}{H2:Hp}{y:aw V},az H H2->NT d.F E (eS K d k) (L W) [L<|.ref a,L<|.int n,L w3,y] H2 (au 0):=λs=>aj J fk<|fk.up s h1;have t1:NB (decide (n<0)||decide (1000000<n)) [L<|.ref a,L<|.int n,L w3,ah] H _:=qy (sj<|jN (g:=λi j=>decide (i<j)) v1 fG) λ_=>sj<|jN (g:=λi j=>decide (j<i)) v1 fG;refine iG t1 (λc U s1=>?_) λc U s1=>?_
 ·exact nY hs kk (Bw.st_step_r<|by simpa using c) s1
 have c:¬(n<0\/1000000<n):=by
  intro z;rw[zJ] at c;exact z.elim (uD c.1)<|uD c.2
 refine jP (L9 (K:=K) (M:=d.F) (E:=E) (σ:=[L<|.ref a,L<|.int n,L w3,ah]) (uA T<|v0 s1)<|aj (i:=2) J yQ h3) λu H2 s2 q2=>?_;have dN:=s1.trans s2;by_cases hf:jv k x=ao
 ·have ef:oy k x=L x:=aH hf
  rw[ef] at q2;have t2:NB aK [L<|.ref a,L<|.int n,L w3,L u] H2 _:=yS (C:=d.F) (E:=E) (aj (i:=3) J (λ_ _ _ _ _ h=>h)<|Rt q2);refine iG t2 (λc=>nomatch c) λ_ H3 s3=>?_;have gG:=dN.trans s3;have rc:RC K k H3 u x:=aI.up s3 q2;have ok:=hs.ok;have si:=Bw.st_step_i (w:=W) hk c rc.2;obtain⟨dx,vk,vw,vb,vs,g1,g2,g3,g4,g5,g6,g7,g8⟩:=hs.same gG;refine⟨λH'=>az H3 H'/\Bw.jl k x {springs:=W.springs,walls:=W.walls} n.toNat W.bodies=ah,?_,λaS H'⟨s4,e4⟩_=>?_⟩
  ·have rn:fC H3 (.int n) n.toNat:=by show V.int n=V.int (n.toNat:ae);rw[BR om]
   refine⟨_,J,a,d.C,dx,_,vk,J,g1,T.cl,T.na _ dk,(by unfold iV;sleep 1),_,J,a,d.C,dx,_,.ref pb,J,g1,T.cl,T.na _ dk,(by unfold iV;sleep 1),_,J,a,d.C,dx,_,.ref ps,J,g1,T.cl,T.na _ dk,(by unfold iV;sleep 1),_,J,a,d.C,dx,_,vw,J,g1,T.cl,T.na _ dk,(by unfold iV;sleep 1),_,J,_,J,?_⟩;refine⟨((),W.bodies,W.springs,W.walls,n.toNat,x,()),⟨⟨_,_,J,g2,_,_,J,⟨pb,vb,J,SqL.of g4,g5⟩,_,_,J,⟨ps,vs,J,SqL.of g6,g7⟩,_,_,J,g3,_,_,J,rn,_,_,J,rc,J⟩,ok.1,ok.2.1,ok.2.2,by show n.toNat<=1000000;omega⟩,λH4 v l s4 el ql=>?_,λH4 s4 e=>⟨s4,e⟩⟩;have el:Bw.jl k x {springs:=W.springs,walls:=W.walls} n.toNat W.bodies=L l:=el;have ll:=IK el;have gU:=gG.trans s4;rw[el] at si;have KO:=s4 _ _ g1;refine⟨_,J,a,d.C,dx,_,J,KO,T.cl,T.na _ dk,(by rw[Bt];show 4<1000;decide),?_⟩;rw[sce_putB];have i5:=Rr (jw:=iV vk v (.ref ps) vw) X KO;have LY:ps≠a:=eF g6 g1 (by intro z;cases z);obtain⟨pE,b,dk,ek,hb⟩:=g2;have dj:∀gg mI,v= .ref gg->H4 gg=L (.lst mI)->cf (ck K d.B k H4) mI l->gg≠ps->(gg=pb\/H gg=ah)->Q (.int 0) (aC H4 a (.ins d.C dx<|iV vk v (.ref ps) vw)):=λgg mI ev Gz Lo nbs hor=>by
    subst ev;have DU:gg≠a:=eF Gz KO (by intro z;cases z);refine kk _ _ gg ps _ (gH Fq si) ⟨λc o e n1 n2 n3=>by rw[bI n1];exact gU _ _ e,hor,.inl J⟩ ⟨dx,vk,vw,mI,vs,bp,⟨pE,b,dk,ek,i5.k _ _ _<|s4 _ _ hb⟩,qw _ _ _ _ i5.t<|qw.i.m.up s4 g3,by rw[bI DU];exact Gz,Lo.imp λv x h=>Ki h i5.t i5.b,by rw[bI LY];exact s4 _ _ g6,g7.imp λv x h=>NP (eJ.m.up s4 h) i5.t i5.s,nbs,by show oo l.length _;rw[ll];exact ok.1,by show l.length<=_;rw[ll];exact ok.2.1,ok.2.2⟩ ?_;rw[si];exact⟨J,J⟩
   rcases ql with⟨ev,rl⟩|⟨gg,mI,ev,Gz,Lo,hn⟩
   ·have el:l=W.bodies:=rl
    subst el;exact dj pb vb ev (s4 _ _ g4) (g5.imp λv x=>cu _ _ _ _ s4) g8.1<|.inl J
   ·exact dj gg mI ev Gz Lo (λz=>by rw[z,g6] at hn;cases hn) (.inr<|gG.free hn)
  ·rw[e4] at si
   exact nY hs kk si<|gG.trans s4
 ·have ef:oy k x=ah:=ay hf
  rw[ef] at q2;have q2:u= .cE:=q2;subst q2;refine iG (a:=ao) (λH3 Q3 s3 k3=>⟨_,J,J,_,J,k3 H3 sr⟩) (λ_ H3 s3=>?_) (λc=>nomatch c);exact nY hs kk (Bw.st_step_n c hf)<|dN.trans s3
end
end BW
namespace BW
open PySem PySem.Spec PyProof.Rows L2
open Bw (bS cQ bf cn ba fE nF tQ)
section
variable{K:aq}{C:ak}{E:XK}{σ:L2.St}{H:Hp}{te ta:TE}
theorem qC(h:NT C E RI (L n) σ H te):NT C E (jF H RI) (L [n]) σ H (IS<|aU te b8):=λU Q s k=>(h.at_ s).go λv H2 s2 q=>⟨(by show 1<=bH;decide),λp hp=>by
 subst q
 exact k.ok _ _ _ (s2.trans<|az.new hp) J ⟨p,_,J,bp,⟨J,cg⟩,(s.trans s2).free hp⟩⟩
theorem A_(h:NT C E RI (L n) σ H te)(h2:NT C E (fI RI) (L l) σ H ta)(hl:l.length<=30000):NT C E (jF H RI) (L<|n::l) σ H<|bY Mv (IS<|aU te b8) ta:=λU Q s k=>by
 refine((qC h).at_ s).go λv H2 s2⟨p,vs,e,hp,ha,hn⟩=>(h2.at_<|s.trans s2).go λu H3 s3⟨p2,us,e2,lu,rQ⟩=>?_;subst e e2;have l1:=ha.bG;have l2:=rQ.bG;refine⟨p,p2,vs,us,J,J,s3 _ _ hp,lu,?_,λq hq=>k.ok _ _ _ ((s2.trans s3).trans<|az.new hq) J ⟨q,_,J,bp,ha.append rQ,((s.trans s2).trans s3).free hq⟩⟩;have l1:vs.length=1:=l1;have:30001<=bH:=by decide
 omega
theorem AS(l:ag af):(Rb49Neutral.ints l).length=l.length:=by simp[Rb49Neutral.ints]
end
section
variable{P:cN}{w:World}{K:aq}{mg:ax->aw aE}{base:b9}{d:Cs}{k:aB}
theorem A0(h:0<=n):fC H (.int n) n.toNat:=by show V.int n=V.int n.toNat;rw[BR h]
theorem Ma(T:Tx K mg d.C "Scene" ou)(h:NT d.F E (eS K d k) (L W) σ H t0)(h1:NT d.F E RI (L a) σ H t1)(h2:NT d.F E RI (L n) σ H t2)(hb:fE W a n=ao):NT d.F E (jF H<|ck K d.B k) (L<|(W.bodies.drop a.toNat).take n.toNat) σ H<|BG (Bl K) (cZ K t0 "bodies") (qO t1) (qO<|bY (gy λi j=>.int<|i+j) t1 t2):=by
 have hb:=Bw.K9 hb;have e:(W.bodies.drop a.toNat).take n.toNat=(W.bodies.drop a.toNat).take ((a+n).toNat-a.toNat):=by congr 1;omega
 rw[e];exact Hu cu ((Ba T h).cW λ_ _ _ h=>h.1) (h1.conv λ_ _ e=>by rw[e];exact A0 hb.1) ((Hn h1 h2).conv λ_ _ e=>by rw[e];exact A0 om) om
theorem Ue(h:RL K (RC K k) H v l)(hl:l.length<=30000):Fy K k H v l:=⟨h,hl⟩
abbrev Vv(K:aq)(d:Cs)(k:aB):Sp:=p_ K d k (aQ RI (aQ RI<|aQ RI cq)) (λx=>.get x.1 x.2.1 x.2.2.1) vO
theorem MV:bE ["self","first","n","what","body"] ["self","first","n","what"] (bw<|sS 9):=fs
theorem ok_tell{f:ak}{fd:cX}(F:bz K "tell" "Scene.tell" (sS 9) f fd)(X:SX P w K mg base d)(k:aB):aD P w K mg base (aO P w d.F) 50 f fd ["self","first","n","what"]<|Vv K d k:=by
 obtain⟨f1,bZ,M1,b1,O1⟩:=X.yB;obtain⟨f2,dg,M2,b2,O2⟩:=X.ab;obtain⟨f3,fh,M3,b3,O3⟩:=X.tw;obtain⟨c2,e2⟩:=X.cB;obtain⟨c4,e4⟩:=X.cOR;have T:=X.T;refine F.oc MV λH Q E hr h=>?_;obtain⟨a,pb,ps,W,⟨i,n,x,_⟩,r,rfl,hs,⟨w2,r2,rfl,h2,w3,r3,rfl,h3,w4,r4,rfl,h4,rfl⟩,kk⟩:=h
 refine⟨_,aG (dU (PW.pt (pV (uL (iT<|bV (O 0) T.cl M1 (O1 k) (hr.aV dc) b1 .nil aA (bJ (O 1)<|O 2))) (pV (dB lG (O 3) a_<|cT _)<|uM (dB xb (O 3) (dF J e2 (v:=.int 20) ⟨c2,J⟩)<|cT _)))) (aR (bg<|gj (bu<|dF J e4 (v:=.int (-2)) ⟨c4,J⟩))) d5)
  (aR (bg (bL uE (gj<|bu a_)<|bV (O 0) T.cl M2 (O2 k) (hr.aV dc) b2 .nil aA (bu (oH (own:=[("body",4)]) (te:=bY (dI K) (eu d.B "twenty" (u_ K d.F d.B k) [] E (au 4) b8)<|au 3) J J J jM J MV.nd (jf (lJ lO (bh<|O 0) (gb<|O 1)<|gb (bL fu (O 1)<|O 2))) bk (λ_ _ _ _ _=>ej 4 MV.nd) (λ_ _ _ _ _=>jh) λ_ _ _ _ _=>dY uj (ee (O 4) X.TB.cl M3 (O3 k) (hr.aV dc) b3 .nil jO) (O 3) λ_ _=>J))))),?_⟩
 have h1:eS K d k H (.ref a) W:=⟨a,pb,ps,J,hs⟩;have v0:∀{H2:Hp},az H H2->NT d.F E (eS K d k) (L W) [L<|.ref a,L w2,L w3,L w4,ah] H2 (au 0):=λs=>aj J fk<|fk.up s h1;have v1:∀{H2:Hp},NT d.F E RI (L i) [L<|.ref a,L w2,L w3,L w4,ah] H2<|au 1:=aj J ia h2;have v2:∀{H2:Hp},NT d.F E RI (L n) [L<|.ref a,L w2,L w3,L w4,ah] H2<|au 2:=aj J ia h3;have v3:∀{H2:Hp},NT d.F E RI (L x) [L<|.ref a,L w2,L w3,L w4,ah] H2<|au 3:=aj J ia h4;have t1:NB (!fE W i n||(decide (x<0)||decide (20<=x))) [L<|.ref a,L w2,L w3,L w4,ah] H _:=qy (wN (qA<|Hm (v0<|az.refl H) v1 v2)) λ_=>qy (sj<|jN (g:=λi j=>decide (i<j)) v3 fG) λ_=>sj<|jN (g:=λi j=>decide (j<=i)) v3 fG;refine iG t1 (λc U s1=>?_) λc U s1=>?_
 ·exact(oM (M:=d.F) (E:=E) hs kk<|Bw.st_get_r c).gQ s1 ((qC fG).cW λ_ _ _⟨p,vs,r1,r2,r3,r4⟩=>⟨p,vs,r1,r2,r3,s1.free r4⟩)
 ·have kk:=oM (M:=d.F) (E:=E) hs kk<|Bw.st_get_s c
  have hc:fE W i n=ao/\0<=x/\x<20:=by
   simp only[zJ,Jk,F3] at c;exact⟨c.1,om,om⟩
  have hB:=Bw.K9 hc.1;have ln:((W.bodies.drop i.toNat).take n.toNat).length<=4096:=by
   rw[km,B1];have:=hs.ok.2.1;omega
  have nl:=((w8 (K:=K) (i:=4) (vs:=[4]) (R:=RC K k) (R':=ck K d.B k) (f:=λb=>L<|(mX b).getD x.toNat 0) du.i.mD aI cu ((Ma T (v0 s1) v1 v2 hc.1).cW λ_ _ _=>zo) (dJ ln dc) (λ_=>J) λH2 v b s2 _ rb=>DZ aI (Mc<|aj (i:=4) J cu rb) (aj (i:=3) J ib (by rw[show w4=_ from h4];exact A0 hc.2.1)) (by
   have:x.toNat<(mX b).length:=by show x.toNat<20;omega
   rw[BY,xI this]
   rfl)).eq<|Bw.lN _).conv λ_ _ h=>Ue h (by rw[hJ];omega)
  exact kk.gQ s1 ((A_ fG (Hg (v0 s1) nl) (by rw[AS,hJ];omega)).cW λ_ _ _⟨p,vs,r1,r2,r3,r4⟩=>⟨p,vs,r1,r2,r3,s1.free r4⟩)
abbrev Vo(K:aq)(d:Cs)(k:aB):Sp:=p_ K d k (aQ RI (aQ RI<|aQ (xS K k) cq)) (λx=>.put x.1 (x.2.2.1.length) x.2.1 x.2.2.1) xR
theorem Ie:bE ["self","first","what","row","numbers","k","x"] ["self","first","what","row"] (bw<|sS 10):=fs
theorem with_eq(b:ff)(h:x_ n=ao)(x:af):Ap ((mX b).set n x)=Wk b n x:=by
 have:=by unfold x_ at h;simpa using h
 have:n=4\/n=5\/n=6\/n=11\/n=12\/n=13\/n=14\/n=15\/n=16\/n=17\/n=18\/n=19:=by omega
 rcases this with rfl|rfl|rfl|rfl|rfl|rfl|rfl|rfl|rfl|rfl|rfl|rfl<;>rfl
theorem eO.setB(h:eO K d k H a pb ps W)(s:az H H')(hb:ck K d.B k H' v b)(hv:H pb=L (.lst vb)):eO K d k (aC H' pb (.lst<|vb.set j v)) a pb ps {W with bodies:=W.bodies.set j b}:=by
 obtain⟨dx,vk,vw,mI,vs,h1,h2,h3,h4,h5,h6,h7,h8,h9,wo,tY⟩:=h.same s;have e:mI=vb:=by rw[s _ _ hv] at h4;cases h4;rfl
 subst e;have i:fJ H'<|aC H' pb (.lst<|mI.set j v):=fJ.aC (by rw[h4];trivial);exact⟨dx,vk,vw,mI.set j v,vs,i.2 _ _ _ _ h1,LK.up i h2,qw _ _ _ _ i.1 h3,bp,(h5.imp λv x=>uo _ _ _ _ i).set j<|uo.up i hb,by rw[bI<|dy h8];exact h6,h7.imp λv x=>eJ _ _ _ _ i,h8,by rw[o9];exact h9,by rw[o9];exact wo,tY⟩
theorem ok_put{f:ak}{fd:cX}(F:bz K "put" "Scene.put" (sS 10) f fd)(X:SX P w K mg base d)(k:aB):aD P w K mg base (aO P w d.F) 50 f fd ["self","first","what","row"]<|Vo K d k:=by
 obtain⟨f1,bZ,M1,b1,O1⟩:=X.yB;obtain⟨f3,fh,M3,b3,O3⟩:=X.rn;obtain⟨c1,e1⟩:=X.cBN;obtain⟨c4,e4⟩:=X.cOR;have T:=X.T;refine F.oc Ie λH Q E hr h=>?_;obtain⟨a,pb,ps,W,⟨i,x,l,_⟩,r,rfl,hs,⟨w2,r2,rfl,h2,w3,r3,rfl,h3,w4,r4,rfl,h4,rfl⟩,kk⟩:=h
 refine⟨_,aG (dU (PW.pt (pV (uL (iT<|bV (O 0) T.cl M1 (O1 k) (hr.aV dc) b1 .nil aA (bJ (O 1)<|jy ox J X.TC.bG pA (bu<|O 3)))) (uM<|uL (iT<|X.ip.c k hr aA (bu<|O 2))))) (aR (bg<|dF J e4 (v:=.int (-2)) ⟨c4,J⟩)) d5)
  (aG (bA 4 Ie.nd<|bV (O 0) T.cl M3 (O3 k) (hr.aV dc) b3 .nil aA (bu<|O 3))
  (aG (dU (dB zc (O 4) nV<|cT _) (aR (bg<|dF J e1 (v:=.int (-3)) ⟨c1,J⟩)) d5)
  (aG (nW mr J (Mm J X.TC.Kx (bu<|O 4)) (Bh J (pR (ej 5 Ie.nd)<|pR (ej 6 Ie.nd) Bi))
    (aR (zi (X.wi.c k hr aA (bF (dY j9 (bh<|O 0) (bL fu (O 1)<|O 5) λ_ _=>J) (O 2)<|O 6)) (zf (bh<|O 0) (bL fu (O 1)<|O 5) zx))))
  (aR<|bg a_)))),?_⟩
 have h1:eS K d k H (.ref a) W:=⟨a,pb,ps,J,hs⟩;have h2:w2= .int i:=h2;have h3:w3= .int x:=h3;subst h2 h3;have v0:∀{H2:Hp}{y:aw V},az H H2->NT d.F E (eS K d k) (L W) [L<|.ref a,L<|.int i,L<|.int x,L w4,y,ah,ah] H2 (au 0):=λs=>aj J fk<|fk.up s h1;have v1:∀{σ:L2.St}{H2:Hp},σ[1]? =L (L<|.int i)->NT d.F E RI (L i) σ H2 (au 1):=λe=>aj e ia J;have v3:∀{H2:Hp}{y:aw V},az H H2->NT d.F E (xS K k) (L l) [L<|.ref a,L<|.int i,L<|.int x,L w4,y,ah,ah] H2 (au 3):=λs=>aj J wM<|wM.up s h4;have t1:NB (!fE W i (l.length:ae)|| !tQ x) [L<|.ref a,L<|.int i,L<|.int x,L w4,ah,ah,ah] H _:=qy (wN (qA (Hm (v0<|az.refl H) (v1 J) (D2<|(v3<|az.refl H).cW λ_ _ _ h=>h.1)))) λ_=>wN (qA<|cP (C:=d.F) (E:=E) (R:=RB) (t:=L (x,())) (f:=λx=>L<|decide (0<=x.1)&&x_ x.1.toNat)<|aF ia (aj (i:=2) J ia J) bQ);refine iG t1 (λc U s1=>?_) λc U s1=>?_
 ·exact nY hs kk (Bw.st_put_r c) s1
 have si:=Bw.st_put_i (k:=k) (l:=l) c;have hc:fE W i (l.length:ae)=ao/\0<=x/\x_ x.toNat=ao:=by
  unfold tQ at c;simpa using c
 have hB:=Bw.K9 hc.1;refine jP (D4 (E:=E) (v0 s1)<|v3 s1) λu H2 s2 q2=>?_;have dN:=s1.trans s2;rcases Ht q2 with⟨hf,rfl⟩|⟨hf,q3,hN⟩
 ·refine iG (a:=ao) (λH3 Q3 s3 k3=>⟨_,J,J,_,J,k3 H3 sr⟩) (λ_ H3 s3=>?_) (λc=>nomatch c)
  exact nY hs kk (si.trans<|ay hf)<|dN.trans s3
 ·have t2:NB aK [L<|.ref a,L<|.int i,L<|.int x,L w4,L u,ah,ah] H2 _:=yS (C:=d.F) (E:=E)<|aj (i:=4) J (λ_ _ _ _ _ h=>h) hN
  refine iG t2 (λc=>nomatch c) λ_ H3 s3=>?_;have gG:=dN.trans s3;have si:=si.trans<|aH hf;obtain⟨p,vl,rfl,hp,ha,hn⟩:=q3;have hp:=s3 _ _ hp;have ha:cf (RC K k H3) vl l:=ha.imp λv x=>aI _ _ _ _ s3;obtain⟨vb0,hpb0⟩:∃vb,H pb=L (.lst vb):=by
   obtain⟨dx,vk,vw,vb,vs,g1,g2,g3,g4,g5⟩:=id hs;exact⟨vb,g4⟩
  have DU:p≠pb:=λz=>by rw[z,s1 _ _ hpb0] at hn;cases hn
  refine⟨_,J,p,vl,J,SqL.of hp,?_⟩;have rS:x.toNat<20:=by
   have:=hc.2.2;unfold x_ at this;simp at this;omega
  refine KL (K:=K) (xs:=vl) (λj aS H'=>∃(x5 x6:aw V),aS=[L<|.ref a,L<|.int i,L<|.int x,L w4,L<|.ref p,x5,x6]/\gA pb H3 H'/\eO K d k H' a pb ps {W with bodies:=Bw.qG W.bodies i.toNat x.toNat l j})
   ⟨ah,ah,J,λc o e _=>e,by rw[Bw.putJ_zero];exact hs.same gG⟩ (λj aS H' _⟨_,_,_,sx,_⟩=>SqL.of<|sx _ _ hp DU) (λj y Tt aS H' hy I hT=>?_) λaS H' I=>?_
  ·obtain⟨x5,x6,rfl,sx,sc⟩:=I
   obtain⟨z,hz,rz⟩:=ha.get hy;have hj:j<l.length:=(List.getElem?_eq_some_iff.mp hz).1;have sT:az H' (aC H' Tt<|.tup [.int (j:af),y]):=az.new hT;refine Az bp ?_;have HS:=sc.same sT;obtain⟨dx,vk,vw,vb,vs,g1,g2,g3,g4,g5,g6⟩:=id HS;have hib:i.toNat+j<W.bodies.length:=by omega
   obtain⟨b,hb⟩:∃b,W.bodies[i.toNat+j]? =L b:=⟨_,xI hib⟩;have ud:(Bw.qG W.bodies i.toNat x.toNat l j)[i.toNat+j]? =L b:=by rw[Bw.putJ_at];exact hb
   have rz':RC K k (aC H' Tt<|.tup [.int (j:af),y]) y z:=by
    have tt:cp H3 H':=by
     have e3:=gG _ _ hpb0;exact⟨λb xs e=>sx _ _ e<|eF e e3 (by intro z;cases z),λb o u e=>sx _ _ e<|eF e e3 (by intro z;cases z)⟩
    exact du _ _ _ _ (tt.trans sT.i.1) rz
   have vs0:NT d.F E (eS K d k) (L {W with bodies:=Bw.qG W.bodies i.toNat x.toNat l j}) [L<|.ref a,L<|.int i,L<|.int x,L w4,L<|.ref p,L<|.int (j:af),L y] (aC H' Tt<|.tup [.int (j:af),y])<|au 0:=aj J fk ⟨a,pb,ps,J,HS⟩;have nix:NT d.F E fC (L<|i.toNat+j) [L<|.ref a,L<|.int i,L<|.int x,L w4,L<|.ref p,L<|.int (j:af),L y] (aC H' Tt<|.tup [.int (j:af),y]) _:=Hh (aj (i:=1) J ib<|A0 hB.1)<|aj (i:=5) J ib J;have nb:NT d.F E (ck K d.B k) (L<|Wk b x.toNat z) _ (aC H' Tt<|.tup [.int (j:af),y]) _:=(cP (t:=L (b,x.toNat,z,())) (f:=λx=>L (Ap<|(mX x.1).set x.2.1 x.2.2.1))<|aF cu (qB cu ((Ba T vs0).cW λ_ _ _ h=>h.1) nix ud) (aF Sl (aj (i:=2) J Sl ⟨A0 (H:=H') hc.2.1,rS⟩)<|aF aI (aj (i:=6) J aI rz') bQ)).eq (gH L<|with_eq b hc.2.2 z);refine nb.go λv H4 s4 rb=>?_;have sc4:=HS.same s4;have dG:vb.length=W.bodies.length:=by rw[g5.bG];exact Bw.TY
   have yJ:kE vb.length (i+(j:ae))=L (i.toNat+j):=by
    unfold kE;rw[aH om,aH om]
    congr 1
    omega
   refine⟨_,J,a,d.C,dx,_,.ref pb,J,s4 _ _ g1,T.cl,T.na _ dk,(by unfold iV;sleep 1),_,J,_,J,_,_,J,J,pb,vb,_,i.toNat+j,J,J,s4 _ _ g4,yJ,?_⟩;have sc5:=HS.setB (j:=i.toNat+j) s4 rb g4;refine⟨_,_,J,λc o e n=>?_,?_⟩
   ·rw[bI n]
    exact s4 _ _ (sT _ _<|sx _ _ e n)
   ·rw[Bw.putJ_succ hb hz]
    exact sc5
  ·obtain⟨x5,x6,rfl,sx,sc⟩:=I
   rw[ha.bG] at sc;refine kk H' _ pb ps _ (gH Fq si) ⟨λc o e n1 n2 n3=>sx _ _ (gG _ _ e) n2,.inl J,.inl J⟩ sc ?_;rw[si];exact⟨J,J⟩
end
end BW
namespace BW
open PySem PySem.Spec PyProof.Rows L2
open Bw (bS fA NS gK)
open Rb49Neutral (kindOf nats)
abbrev Bk:ag ax:=["calls","at"]
def kL(v0 v1:V):ag<|ax×V:=aY "at" v1<|aY "calls" v0 []
theorem Bm:(kL v0 v1).lookup ("at":ax)=L v1:=by unfold kL;sleep 1
theorem Mx:(kL v0 v1).lookup ("calls":ax)=L v0:=by unfold kL;sleep 1
theorem HI{m:ax}(h:(decide (¬m="at")&&decide (¬m="calls"))=ao):(kL v0 v1).lookup m=ah:=by
 rw[eR] at h;unfold kL;rw[dm,ay<|dE h.1,dm,ay<|dE h.2];rfl
theorem T_:aY "at" v (kL v0 v1)=kL v0 v:=by
 have e:∀x,kL v0 x=(_:ag _):=λx=>by unfold kL;sleep 2
 rw[e,e];sleep 2
def s_(K:aq)(H:Hp)(a:ak)(xs:ag V):Prop:=(∃o,H a=L (.iP o<|.lst xs))\/ ∃(o:eN)(aZ:jC aE)(n:af),K.lookup a=L o/\o.cls= .type "list"/\o.dict=ah/\o.data= .seq aZ n/\aZ.size<=bH/\cI xs aZ.toList
theorem s_.sq{K:aq}(h:s_ K H a xs):SqL K H a xs:=h.imp (λ⟨o,e⟩=>.inr ⟨o,e⟩) λh=>h
theorem s_.same{K:aq}(h:s_ K H a xs)(s:cp H H'):s_ K H' a xs:=h.imp (λ⟨o,e⟩=>⟨o,s.2 _ _ _ e⟩) λh=>h
def vW(K:aq)(d:Cs)(H:Hp)(ra la:ak)(calls:ag ae)(n:af):Prop:=(∃dx,H ra=L (.ins d.R dx (kL (.ref la)<|.int n)))/\s_ K H la (calls.map V.int)/\n<=calls.length
theorem gA.t{fs:ag (ax×V)}(s:gA a H H')(h:H a=L (.ins C dx fs)):cp H H':=⟨λb xs e=>s b _ e<|eF e h (by intro z;cases z),λb o u e=>s b _ e<|eF e h (by intro z;cases z)⟩
abbrev sR(j:af):dr:=rX (aN 98) j
section
variable{P:cN}{w:World}{K:aq}{mg:ax->aw aE}{base:b9}{d:Cs}
def Vp(K:aq)(d:Cs):Sp:=λvs H Q _=>∃(p la dx:ak)(calls:ag ae),vs=[.ref p,.ref la]/\H p=L (.ins d.R dx [])/\s_ K H la (calls.map V.int)/\ ∀H',gA p H H'->vW K d H' p la calls 0->Q .cE H'
theorem scRI:bE ["self","calls"] ["self","calls"] (bw<|sR 0):=fs
theorem ok_rinit(F:bz K "__init__" "Reader.__init__" (sR 0) f fd)(T:Tx K mg d.R "Reader" Bk):aD P w K mg base (aO P w d.F) 10 f fd ["self","calls"]<|Vp K d:=by
 refine F.pQ scRI (λvs H Q E h=>?_) λcG A bC s H vs Q E hr h=>?_
 ·obtain⟨p,la,dx,calls,rfl,_⟩:=h
  rfl
 ·obtain⟨p,la,dx,calls,rfl,hp,hl,kk⟩:=h
  refine⟨_,aG (dH (O 0) (O 1) J) (aR<|dH (O 0) a_ J),?_⟩;refine⟨_,J,_,J,p,d.R,dx,_,J,hp,T.cl,T.na _ dk,(by decide),?_⟩;refine⟨_,J,p,d.R,dx,_,J,bp,T.cl,T.na _ dk,(by show 1<1000;decide),?_⟩;have s2:gA p H (aC (aC H p (.ins d.R dx<|aY "calls" (.ref la) [])) p<|.ins d.R dx (aY "at" (.int 0)<|aY "calls" (.ref la) [])):=λc o e n=>by rw[bI n,bI n];exact e
  exact kk _ s2 ⟨⟨dx,bp⟩,hl.same<|s2.t hp,eI _⟩
def Vf(K:aq)(d:Cs):Sp:=λvs H Q _=>∃(ra la:ak)(calls:ag ae)(n:af),vs=[.ref ra]/\vW K d H ra la calls n/\Q (.bl<|decide (calls.length<=n)) H
theorem scDn:bE ["self"] ["self"] (bw<|sR 1):=fs
theorem ok_done(F:bz K "is_done" "Reader.is_done" (sR 1) f fd)(TC:jq mg)(T:Tx K mg d.R "Reader" Bk):aD P w K mg base (aO P w d.F) 10 f fd ["self"]<|Vf K d:=by
 refine F.pQ scDn (λvs H Q E h=>?_) λcG A bC s H vs Q E hr h=>?_
 ·obtain⟨ra,la,calls,n,rfl,_⟩:=h
  rfl
 ·obtain⟨ra,la,calls,n,rfl,⟨⟨dx,h1⟩,h2,h3⟩,kk⟩:=h
  refine⟨_,aR<|bg (ke xb (bh<|O 0) (jy ox J TC.bG pA<|bu (bh<|O 0))<|cT _),?_⟩;refine⟨_,J,ra,d.R,dx,_,_,J,h1,T.cl,T.na _ dk,Bm,_,J,ra,d.R,dx,_,_,J,h1,T.cl,T.na _ dk,Mx,la,_,J,.inl h2.sq,_,_,J,J,?_⟩;rw[hJ];show Q (.bl _) H;have e:decide (calls.length<=(n:ae))=decide (calls.length<=n):=by rw[Kr];omega
  rw[e];exact kk
def BA(K:aq)(d:Cs):Sp:=λvs H Q _=>∃(ra la:ak)(calls:ag ae)(n:af)(x:ae),vs=[.ref ra]/\vW K d H ra la calls n/\calls[n]? =L x/\ ∀H',gA ra H H'->vW K d H' ra la calls (n+1)->Q (.int x) H'
theorem scTk:bE ["self"] ["self"] (bw<|sR 2):=fs
theorem Ti(F:bz K "take" "Reader.take" (sR 2) f fd)(T:Tx K mg d.R "Reader" Bk):aD P w K mg base (aO P w d.F) 10 f fd ["self"]<|BA K d:=by
 refine F.pQ scTk (λvs H Q E h=>?_) λcG A bC s H vs Q E hr h=>?_
 ·obtain⟨ra,la,calls,n,x,rfl,_⟩:=h
  rfl
 ·obtain⟨ra,la,calls,n,x,rfl,⟨⟨dx,h1⟩,h2,h3⟩,hx,kk⟩:=h
  refine⟨_,aG (TX (O 0) a_ Lr) (aR (bg<|dY j9 (bh<|O 0) (bL ig (bh<|O 0) a_) λ_ _=>J)),?_⟩;refine⟨_,J,ra,d.R,dx,_,_,J,h1,T.cl,T.na _ dk,Bm,_,_,J,J,dx,_,h1,(by show 2<1000;decide),?_⟩;have e1:aY "at" (V.int<|n+1) (kL _<|.int n)=kL (.ref la) (.int (n+1:af)):=T_;rw[e1];have s2:gA ra H (aC H ra<|.ins d.R dx (kL (.ref la)<|.int (n+1:af))):=λc o e n=>by rw[bI n];exact e
  have l2:=h2.same<|s2.t h1;have hn:=(List.getElem?_eq_some_iff.mp hx).1;have ex:(calls.map V.int)[n]? =L (.int x):=by rw[mO,hx];rfl
  have ei:(n+1:af)-1=(n:ae):=by omega
  refine⟨_,J,ra,d.R,dx,_,_,J,bp,T.cl,T.na _ dk,Mx,_,J,ra,d.R,dx,_,_,J,bp,T.cl,T.na _ dk,Bm,_,_,J,J,la,_,_,_,J,J,l2.sq,by rw[ei];exact tO ex,?_⟩;exact kk _ s2 ⟨⟨dx,bp⟩,l2,hn⟩
def NM(K:aq)(d:Cs):Sp:=λvs H Q _=>∃(ra la:ak)(calls:ag ae)(n:af)(l t:ag ae),vs=[.ref ra]/\vW K d H ra la calls n/\calls.drop n=(l.length:ae)::(l++t)/\ ∀H' p,gA ra H H'->vW K d H' ra la calls (n+1+l.length)->H p=ah->H' p=L (.lst<|l.map V.int)->Q (.ref p) H'
theorem UJ:bE ["self","length"] ["self"] (bw<|sR 3):=fs
theorem ok_takeRow(F:bz K "take_row" "Reader.take_row" (sR 3) f fd)(T:Tx K mg d.R "Reader" Bk)(G1:Gm K d.R "take" "Reader.take" (sR 2) f1 bZ ["self"]):aD P w K mg base (aO P w d.F) 14 f fd ["self"]<|NM K d:=by
 have O1:aD P w K mg base _ 10 f1 bZ ["self"] _:=Ti G1.F T;refine F.pQ UJ (λvs H Q E h=>?_) λcG A bC s H vs Q E hr h=>?_
 ·obtain⟨ra,la,calls,n,l,t,rfl,_⟩:=h
  rfl
 ·obtain⟨ra,la,calls,n,l,t,rfl,hR,hd,kk⟩:=h
  refine⟨_,aG (bA 1 UJ.nd<|ee (O 0) T.cl G1.aJ O1 (hr.aV dc) G1.b .nil aA) (aG (TX (O 0) (O 1) Lr)
   (aR (bg (lJ lO (bh<|O 0) (gb<|bL ig (bh<|O 0)<|O 1)<|gb (bh<|O 0))))),?_⟩
  obtain⟨e1,e2,e3⟩:=Bw.Ku hd;obtain⟨r1,r2,r3⟩:=Bw.Qm om e2;obtain⟨Zp,h0⟩:=hR.1;refine⟨_,J,ra,Zp,_,J,h0,HI dk,ra,la,calls,n,_,J,hR,e1,λU s1⟨⟨dx,h1⟩,h2,h3⟩=>?_⟩;refine⟨_,J,ra,d.R,dx,_,_,J,h1,T.cl,T.na _ dk,Bm,_,J,_,_,J,J,dx,_,h1,(by show 2<1000;decide),?_⟩;have ea:aY "at" (V.int<|(n+1:af)+l.length) (kL (.ref la)<|.int (n+1:af))=kL (.ref la) (.int ((n+1+l.length:af):ae)):=by rw[T_];rfl
  rw[ea];have s2:gA ra U (aC U ra<|.ins d.R dx (kL (.ref la)<|.int ((n+1+l.length:af):ae))):=λc o e n=>by rw[bI n];exact e
  have l2:=h2.same<|s2.t h1;refine⟨_,J,ra,d.R,dx,_,_,J,bp,T.cl,T.na _ dk,Mx,_,J,ra,d.R,dx,_,_,J,bp,T.cl,T.na _ dk,Bm,_,J,_,_,J,J,_,J,_,J,ra,d.R,dx,_,_,J,bp,T.cl,T.na _ dk,Bm,_,J,la,_,J,l2.sq,λp hp=>?_⟩;have ei:((n+1+l.length:af):ae)-(l.length:ae)=((n+1:af):ae):=by omega
  have ec:qk (calls.map V.int) (L<|((n+1+l.length:af):ae)-(l.length:ae)) (L ((n+1+l.length:af):ae))=l.map V.int:=by
   rw[ei,Ar (by rw[hJ];exact r3),<-List.map_drop,<-List.map_take,Xj,r2]
  have ne:p≠ra:=λz=>by rw[z,bp] at hp;cases hp
  have Rc:H p=ah:=by
   cases q:H p with
   |none=>rfl
   |some u=>rw[bI ne,s1 p u q ne] at hp;cases hp
  have s3:gA ra H (aC (aC U ra<|.ins d.R dx _) p (.lst<|l.map V.int)):=λc o e m=>by rw[bI<|dv e Rc];exact s2 _ _ (s1 _ _ e m) m
  rw[ec];exact kk _ p s3 ⟨⟨dx,by rw[bI<|dy ne];exact bp⟩,hR.2.1.same<|s3.t h0,r3⟩ Rc bp
end
end BW
namespace BW
open PySem PySem.Spec PyProof.Rows L2
open Bw (bS cQ bf cn ba fE placeOf sH)
section
variable{K:aq}{C:ak}{E:XK}{σ:L2.St}{H H0:Hp}{te ta:TE}
theorem _root_.L2.NT.up(h:NT C E (jF H RI) (L l) σ H te)(s:az H0 H):NT C E (jF H0 RI) (L l) σ H te:=h.cW λ_ _ _⟨p,vs,r1,r2,r3,r4⟩=>⟨p,vs,r1,r2,r3,s.free r4⟩
theorem Y4{m:af}:qk vs (L 0) (L m)=vs.take m:=by
 unfold qk;have e1:HT.eQ vs.length 0 (L 0)=0:=by
  show(if 0<0 then(0+(vs.length:ae)).toNat else min (0:ae).toNat vs.length)=_;rw[ay om];exact Nat.zero_min _
 have e2:HT.eQ vs.length vs.length (L m)=min m vs.length:=by
  show(if m<0 then(m+(vs.length:ae)).toNat else min (m:ae).toNat vs.length)=_;rw[ay om,kl]
 rw[e1,e2,Ov,Nat.sub_zero,List.take_eq_take_iff];omega
theorem nt_sl0{R:bO α}{xs:ag α}(m:cV R)(h:NT C E (RL K R) (L xs) σ H te)(hh:NT C E fC (L j) σ H ta):NT C E (fI R) (L<|xs.take j) σ H<|BG (Bl K) te (qO (tC<|.int 0))<|qO ta:=λU Q s k=>by
 refine(h.at_ s).go λv H2 s2 q=>⟨_,J,(hh.at_<|s.trans s2).go λu2 H4 s4 q4=>⟨_,q4,?_⟩⟩;obtain⟨p,vs,rfl,hp,ha⟩:=cw m _ _ _ _ s4 q;refine⟨p,vs,J,hp,λl hn=>k.ok _ _ _ ((s2.trans s4).trans<|az.new hn) J ⟨l,_,J,bp,?_⟩⟩;rw[Y4];exact(ha.take j).imp λv x=>m _ _ _ _<|az.new hn
theorem nt_ints(h:NT C E (fI fC) (L l) σ H te):NT C E (fI RI) (L<|Rb49Neutral.ints l) σ H te:=h.conv λH v⟨p,vs,e,hp,ha⟩=>⟨p,vs,e,hp,by
 have:∀{vs:ag V}{l:ag af},cf _ vs l->cf (RI H) vs (Rb49Neutral.ints l):=λ{vs l}h=>by
  induction l generalizing vs with
  |nil=>cases vs with
   |nil=>trivial
   |cons _ _=>exact h.elim
  |cons x l ih=>cases vs with
   |nil=>exact h.elim
   |cons v vs=>exact⟨h.1,ih h.2⟩
 exact this ha⟩
theorem gA.i(s:gA a H H')(h:H a=L (.lst xs)):fJ H H':=⟨⟨λb xs e=>s b _ e<|eF e h (by intro z;cases z),λb o u e=>s b _ e<|eF e h (by intro z;cases z)⟩,λb C dx fs e=>s b _ e<|eF e h (by intro z;cases z)⟩
theorem r3l_of(h:RL K (RC K k) H v [x,y,z]):kS K k H v ⟨x,y,z⟩:=by
 obtain⟨p,vs,rfl,hp,ha⟩:=h;obtain⟨a,b,c,rfl,h1,h2,h3⟩:=Ly ha;exact⟨p,a,b,c,J,.inl hp,h1,h2,h3⟩
end
section
variable{P:cN}{w:World}{K:aq}{mg:ax->aw aE}{base:b9}{d:Cs}{k:aB}
abbrev Vs(K:aq)(d:Cs)(k:aB):Sp:=p_ K d k cq (λ_=>.sums) vO
theorem UG:bE ["self","found"] ["self"] (bw<|sS 11):=fs
theorem ok_sumsS{f:ak}{fd:cX}(F:bz K "sums" "Scene.sums" (sS 11) f fd)(X:SX P w K mg base d)(k:aB):aD P w K mg base (aO P w d.F) 50 f fd ["self"]<|Vs K d k:=by
 obtain⟨f2,dg,M2,b2,O2⟩:=X.ab;obtain⟨c3,e3⟩:=X.cSF;have T:=X.T;refine F.oc UG λH Q E hr h=>?_;obtain⟨a,pb,ps,W,t,r,rfl,hs,rfl,kk⟩:=h
 refine⟨_,aG (Ef (tb:=λHc=>jU (d8 (IG K d.F d.K d.B d.S k) [] (λ_ _ H'=>Hc H')<|aU (cZ K (au 0) "kind") (aU (cZ K (au 0) "bodies")<|aU (cZ K (au 0) "springs") b8))<|eE 1) J J J X.TK.rM J X.TK.r_
  (λHc pl=>aR<|bA 1 UG.nd (X.V1.c k hr D' (bF (bh<|O 0) (bh<|O 0) (bh<|O 0)))) λpl e=>aR (bg<|gj (bu<|dF J e3 (v:=.int (-5)) ⟨c3,J⟩)))
  (aR (bg (bL uE (gj<|bu a_)<|bV (O 0) T.cl M2 (O2 k) (hr.aV dc) b2 .nil aA (bu<|O 1)))),?_⟩
 have h1:eS K d k H (.ref a) W:=⟨a,pb,ps,J,hs⟩;have v0:∀{E:XK}{H2:Hp}{y:aw V},az H H2->NT d.F E (eS K d k) (L W) [L<|.ref a,y] H2 (au 0):=λs=>aj J fk<|fk.up s h1;have ol:=Bw.Tq (k:=k) hs.ok.2.1 .sums;have kk:=λn l=>oM (M:=d.F) (E:=E) (n:=n) (l:=l) hs kk;rw[Bw.st_sums] at ol kk;refine⟨λH'=>az H H'/\Ac k {bodies:=W.bodies,springs:=W.springs}=ah,?_,λaS H'⟨s1,e1⟩_=>?_⟩
 ·have uC:NT d.F (λ_ _ H'=>az H H'/\Ac k {bodies:=W.bodies,springs:=W.springs}=ah) (fI<|RC K k) (Ac k {bodies:=W.bodies,springs:=W.springs}) [L<|.ref a,ah] H _:=cP (t:=L ((),W.bodies,W.springs,())) (f:=λx=>Ac k {bodies:=x.2.1,springs:=x.2.2.1}) (nT (c:=λx=>oo x.2.1.length x.2.2.1/\x.2.1.length<=4096/\x.2.2.1.length<=8192) (aF aM (uA T (v0<|az.refl H)) (aF (cw cu) ((Ba T (v0<|az.refl H)).cW λ_ _ _ h=>h.1)<|aF (cw eJ.m) (L7 T (v0<|az.refl H)) bQ)) λy e=>by cases e;exact hs.ok)
  refine uC H _ sr ⟨λU u l s1 el q1=>?_,λH' s' e'=>⟨s',e'⟩⟩;rw[el] at ol kk;have ol:l.length<=28672:=ol;exact(kk 0 l J).gQ s1<|(A_ fG (Hg (v0 s1)<|aj (i:=1) J LN ⟨Ei q1,om⟩) (by rw[AS];omega)).up s1
 ·rw[e1] at kk
  exact(kk (-5) [] J).gQ s1<|(qC fG).up s1
abbrev Vc(K:aq)(d:Cs)(k:aB):Sp:=p_ K d k cq (λ_=>.box) vO
theorem scBo:bE ["self"] ["self"] (bw<|sS 12):=fs
theorem ok_boxS{f:ak}{fd:cX}(F:bz K "box" "Scene.box" (sS 12) f fd)(X:SX P w K mg base d)(k:aB):aD P w K mg base (aO P w d.F) 50 f fd ["self"]<|Vc K d k:=by
 obtain⟨f2,dg,M2,b2,O2⟩:=X.ab;obtain⟨c3,e3⟩:=X.cNB;have T:=X.T;refine F.oc scBo λH Q E hr h=>?_;obtain⟨a,pb,ps,W,t,r,rfl,hs,rfl,kk⟩:=h
 refine⟨_,aG (dU (dB iQ (jy ox J X.TC.bG pA<|bu (bh<|O 0)) a_<|cT _) (aR (bg<|gj (bu<|dF J e3 (v:=.int (-1)) ⟨c3,J⟩))) d5)
  (aR<|bg (bL uE (gj<|bu a_) (bV (O 0) T.cl M2 (O2 k) (hr.aV dc) b2 .nil aA<|bu (X.bx.c k hr aA<|bu (bh<|O 0))))),?_⟩
 have h1:eS K d k H (.ref a) W:=⟨a,pb,ps,J,hs⟩;have v0:∀{H2:Hp},az H H2->NT d.F E (eS K d k) (L W) [L<|.ref a] H2 (au 0):=λs=>aj J fk<|fk.up s h1;have t1:NB (decide ((W.bodies.length:ae)=0)) [L<|.ref a] H _:=sj<|jN (g:=λi j=>decide (i=j)) (D1 T (v0<|az.refl H)) fG;refine iG t1 (λc U s1=>?_) λc U s1=>?_
 ·have c:(W.bodies.length:ae)=0:=dE c
  exact(oM (M:=d.F) (E:=E) hs kk<|Bw.st_box_n om).gQ s1<|(qC fG).up s1
 ·have c:=uD c
  have nb:NT d.F E (fI<|RC K k) _ [L<|.ref a] U _:=cP (t:=L (W.bodies,())) (f:=λx=>L<|Rb49.box k {bodies:=x.1}) (nT (c:=λx=>x.1≠[]/\bS k) (aF pJ (Ba T<|v0 s1) bQ) λy e=>by cases e;exact⟨λz=>by rw[show W.bodies=[] from z] at c;exact c J,hs.yM⟩);exact(oM (M:=d.F) (E:=E) hs kk<|Bw.st_box_s om).gQ s1<|(A_ fG (Hg (v0 s1) (nb.conv λ_ _ h=>Ue (Ei h) (by show 6<=30000;decide))) (by rw[AS];show 6<=30000;decide)).up s1
abbrev Vr(K:aq)(d:Cs)(k:aB):Sp:=p_ K d k (aQ (RX k)<|aQ RI cq) (λx=>.slow x.1 x.2.1) vO
theorem MT:bE ["self","bits","most","limit","found"] ["self","bits","most"] (bw<|sS 13):=fs
theorem ok_slowS{f:ak}{fd:cX}(F:bz K "slow" "Scene.slow" (sS 13) f fd)(X:SX P w K mg base d)(k:aB):aD P w K mg base (aO P w d.F) 50 f fd ["self","bits","most"]<|Vr K d k:=by
 obtain⟨f1,bZ,M1,b1,O1⟩:=X.fb;obtain⟨c1,e1⟩:=X.cBN;obtain⟨c2,e2⟩:=X.P5;obtain⟨c3,e3⟩:=X.cSF;obtain⟨c4,e4⟩:=X.cOR;have T:=X.T;refine F.oc MT λH Q E hr h=>?_;obtain⟨a,pb,ps,W,⟨x,n,_⟩,r,rfl,hs,⟨w2,r2,rfl,h2,w3,r3,rfl,h3,rfl⟩,kk⟩:=h
 refine⟨_,aG (dU (PW.pt (pV (dB lG (O 2) a_<|cT _)<|uM (dB uF (O 2) (dF J e2 (v:=.int 4096) ⟨c2,J⟩)<|cT _))) (aR (bg<|gj (bu<|dF J e4 (v:=.int (-2)) ⟨c4,J⟩))) d5)
  (aG (bA 3 MT.nd (bV (bh<|O 0) X.TK.cl M1 (O1 k) (hr.aV dc) b1 .nil aA (bu<|O 1)))
  (aG (dU (dB zc (O 3) nV<|cT _) (aR (bg<|gj (bu<|dF J e1 (v:=.int (-3)) ⟨c1,J⟩))) d5)
  (aG (Ef (tb:=λHc=>jU (d8 (NJ K d.F d.K d.B k) [] (λ_ _ H'=>Hc H')<|aU (cZ K (au 0) "kind") (aU (cZ K (au 0) "bodies")<|aU (au 3) b8))<|eE 4) J J J X.TK.rM J X.TK.r_
    (λHc pl=>aR (bA 4 MT.nd<|X.sl.c k hr D' (bF (bh<|O 0) (bh<|O 0)<|O 3))) λpl e=>aR (bg<|gj (bu<|dF J e3 (v:=.int (-5)) ⟨c3,J⟩)))
  (aR (bg<|bL uE (gj (bu<|jy ox J X.TC.bG pA (bu<|O 4)))<|lJ lO (O 4) (gb a_) (gb<|O 2)))))),?_⟩
 have h1:eS K d k H (.ref a) W:=⟨a,pb,ps,J,hs⟩;have hk:=hs.yM;have h3:w3= .int n:=h3;subst h3;have h2:RX k H w2 x:=h2;have v2:∀{H2:Hp}{y z:aw V},NT d.F E RI (L n) [L<|.ref a,L w2,L<|.int n,y,z] H2<|au 2:=aj J ia J;have v0:∀{E:XK}{H2:Hp}{y z:aw V},az H H2->NT d.F E (eS K d k) (L W) [L<|.ref a,L w2,L<|.int n,y,z] H2 (au 0):=λs=>aj J fk<|fk.up s h1;have t1:NB (decide (n<0)||decide (4096<n)) [L<|.ref a,L w2,L<|.int n,ah,ah] H _:=qy (sj<|jN (g:=λi j=>decide (i<j)) v2 fG) λ_=>sj<|jN (g:=λi j=>decide (j<i)) v2 fG;refine iG t1 (λc U s1=>?_) λc U s1=>?_
 ·exact(oM (M:=d.F) (E:=E) hs kk (Bw.st_slow_r<|by simpa using c)).gQ s1<|(qC fG).up s1
 have c:¬(n<0\/4096<n):=by
  intro z;rw[zJ] at c;exact z.elim (uD c.1)<|uD c.2
 refine jP (L9 (K:=K) (M:=d.F) (E:=E) (σ:=[L<|.ref a,L w2,L<|.int n,ah,ah]) (uA T<|v0 s1)<|aj (i:=1) J yQ h2) λu H2 s2 q2=>?_;have dN:=s1.trans s2;by_cases hf:jv k x=ao
 ·have ef:oy k x=L x:=aH hf
  rw[ef] at q2;have t2:NB aK [L<|.ref a,L w2,L<|.int n,L u,ah] H2 _:=yS (C:=d.F) (E:=E) (aj (i:=3) J (λ_ _ _ _ _ h=>h)<|Rt q2);refine iG t2 (λc=>nomatch c) λ_ H3 s3=>?_;have gG:=dN.trans s3;have rc:RC K k H3 u x:=aI.up s3 q2;have kk:=λn l=>oM (M:=d.F) (E:=E) (n:=n) (l:=l) hs kk;rw[Bw.st_slow_i c hf,slowF_eq] at kk;refine⟨λH'=>az H3 H'/\zy k x W.bodies=ah,?_,λaS H'⟨s4,e4⟩_=>?_⟩
  ·have uC:NT d.F (λ_ _ H'=>az H3 H'/\zy k x W.bodies=ah) (fI fC) (zy k x W.bodies) [L<|.ref a,L w2,L<|.int n,L u,ah] H3 _:=cP (t:=L ((),W.bodies,x,())) (f:=λx=>zy k x.2.2.1 x.2.1) (aF aM (uA T<|v0 gG)<|aF pJ (Ba T<|v0 gG)<|aF aI (aj (i:=3) J aI rc) bQ)
   refine uC H3 _ sr ⟨λH4 u4 l s4 el q4=>?_,λH' s' e'=>⟨s',e'⟩⟩;rw[el] at kk;have gU:=gG.trans s4;have v4:NT d.F E (fI fC) (L l) [L<|.ref a,L w2,L<|.int n,L u,L u4] H4<|au 4:=aj J (mono_ls ib) q4;have sl:=nt_ints<|nt_sl0 ib (v4.cW λ_ _ _=>Ei (K:=K)) (aj (i:=2) J ib<|A0 (n:=n) om);exact(kk (l.length:ae) (l.take n.toNat) J).gQ gU<|(A_ (D2 (v4.cW λ_ _ _=>Ei (K:=K))) sl (by rw[AS,km];omega)).up gU
  ·rw[e4] at kk
   exact(kk (-5) [] J).gQ (gG.trans s4) ((qC fG).up<|gG.trans s4)
 ·have ef:oy k x=ah:=ay hf
  rw[ef] at q2;have q2:u= .cE:=q2;subst q2;refine iG (a:=ao) (λH3 Q3 s3 k3=>⟨_,J,J,_,J,k3 H3 sr⟩) (λ_ H3 s3=>?_) (λc=>nomatch c);exact(oM (M:=d.F) (E:=E) hs kk<|Bw.st_slow_n c hf).gQ (dN.trans s3) ((qC fG).up<|dN.trans s3)
end
end BW
namespace BW
open PySem PySem.Spec PyProof.Rows L2
open Bw (bS cQ bf cn ba fE placeOf sH)
section
variable{P:cN}{w:World}{K:aq}{mg:ax->aw aE}{base:b9}{d:Cs}{k:aB}
theorem list3N{l:ag af}(h:l.length=3):∃a b c,l=[a,b,c]:=by
 obtain⟨a0,l0,rfl,g0⟩:=dQ h;obtain⟨a1,l1,rfl,g1⟩:=dQ g0;obtain⟨a2,l2,rfl,g2⟩:=dQ g1
 cases l2 with
 |nil=>exact⟨a0,a1,a2,J⟩
 |cons x t=>cases g2
theorem V2{W:rm}(h:W.bodies.length<=4096)(i n:af):((W.bodies.drop i).take n).length<=4096:=by
 rw[km,B1];omega
structure sW(K:aq)(k:aB)(H H':Hp)(l:ak)(zs:ag af):Prop where
 sx:gA l H H'
 ex:∃vs,H' l=L (.lst vs)/\cf (RC K k H') vs zs
theorem sW.up(g:sW K k H H' l zs)(s:az H0 H)(hn:H0 l=ah):az H0 H':=g.sx.base s hn
theorem sW.more(g:sW K k H H' l zs)(s:az H' H2)(ht:cf (RC K k H2) vt ys):∃vs,H2 l=L (.lst vs)/\vs.length=zs.length/\sW K k H (aC H2 l (.lst<|vs++vt)) l (zs++ys):=by
 obtain⟨sx,vs,e,ha⟩:=g;have e2:=s _ _ e;have i:cp H2<|aC H2 l (.lst<|vs++vt):=cp.aC (by rw[e2];trivial);exact⟨vs,e2,ha.bG,λc o e n=>by rw[bI n];exact s _ _<|sx _ _ e n,vs++vt,bp,(ha.imp λv x h=>du _ _ _ _ (s.i.1.trans i) h).append (ht.imp λv x h=>du.up i h)⟩
abbrev Vn(K:aq)(d:Cs)(k:aB):Sp:=p_ K d k (aQ RI (aQ RI<|aQ (Fw K k 3) cq)) (λx=>.points x.1 x.2.1 x.2.2.1) vO
theorem Ic:bE ["self","first","n","row","r","found","body"] ["self","first","n","row"] (bw<|sS 14):=fs
theorem ok_points{f:ak}{fd:cX}(F:bz K "points" "Scene.points" (sS 14) f fd)(X:SX P w K mg base d)(k:aB):aD P w K mg base (aO P w d.F) 50 f fd ["self","first","n","row"]<|Vn K d k:=by
 obtain⟨f1,bZ,M1,b1,O1⟩:=X.yB;obtain⟨f2,dg,M2,b2,O2⟩:=X.ab;obtain⟨f3,fh,M3,b3,O3⟩:=X.rn;obtain⟨c1,e1⟩:=X.cBN;obtain⟨c3,e3⟩:=X.cSF;obtain⟨c4,e4⟩:=X.cOR;have T:=X.T;refine F.oc Ic λH Q E hr h=>?_;obtain⟨a,pb,ps,W,⟨i,n,l,_⟩,r,rfl,hs,⟨w2,r2,rfl,h2,w3,r3,rfl,h3,w4,r4,rfl,⟨h4,Dk⟩,rfl⟩,kk⟩:=h
 refine⟨_,aG (dU (uL (iT<|bV (O 0) T.cl M1 (O1 k) (hr.aV dc) b1 .nil aA (bJ (O 1)<|O 2))) (aR (bg<|gj (bu<|dF J e4 (v:=.int (-2)) ⟨c4,J⟩))) d5)
  (aG (bA 4 Ic.nd<|bV (O 0) T.cl M3 (O3 k) (hr.aV dc) b3 .nil aA (bu<|O 3))
  (aG (dU (dB zc (O 4) nV<|cT _) (aR (bg<|gj (bu<|dF J e1 (v:=.int (-3)) ⟨c1,J⟩))) d5)
  (aG (bA 5 Ic.nd<|gj uH)
  (aG (Ef (tb:=λHc=>VV (yH K (BG (Bl K) (cZ K (au 0) "bodies") (qO<|au 1) (qO<|bY (gy λi j=>.int<|i+j) (au 1)<|au 2))) (eE 6)<|VU (VT K "list" (T6 K) (au 5)<|aU (d8 (ID K d.F d.K d.B k) [] (λ_ _ H'=>Hc H')<|aU (cZ K (au 0) "kind") (aU (au 6)<|aU (au 4) b8)) b8)) J J J X.TK.rM J X.TK.r_
    (λHc pl=>aR (nW ownTry J (jf (lJ lO (bh<|O 0) (gb<|O 1)<|gb (bL fu (O 1)<|O 2))) (ej 6 Ic.nd)
      (aR (pU<|uJ vM O0 O8 So (O 5) (bu (X.pp.c k hr D'<|bF (bh<|O 0) (O 6)<|O 4))))))
    (λpl e=>aR (bg<|gj (bu<|dF J e3 (v:=.int (-5)) ⟨c3,J⟩))))
  (aR (bg (bL uE (gj<|bu a_)<|bV (O 0) T.cl M2 (O2 k) (hr.aV dc) b2 .nil aA (bu<|O 5)))))))),?_⟩
 have h1:eS K d k H (.ref a) W:=⟨a,pb,ps,J,hs⟩;have Dk:l.length=3:=Dk;have v0:∀{E:XK}{H2:Hp}{x y z:aw V},az H H2->NT d.F E (eS K d k) (L W) [L<|.ref a,L w2,L w3,L w4,x,y,z] H2 (au 0):=λs=>aj J fk<|fk.up s h1;have v1:∀{E:XK}{H2:Hp}{x y z:aw V},NT d.F E RI (L i) [L<|.ref a,L w2,L w3,L w4,x,y,z] H2<|au 1:=aj J ia h2;have v2:∀{E:XK}{H2:Hp}{x y z:aw V},NT d.F E RI (L n) [L<|.ref a,L w2,L w3,L w4,x,y,z] H2<|au 2:=aj J ia h3;have t1:NB (!fE W i n) [L<|.ref a,L w2,L w3,L w4,ah,ah,ah] H _:=wN (qA<|Hm (E:=E) (v0<|az.refl H) v1 v2);refine iG t1 (λc U s1=>?_) λc U s1=>?_
 ·exact(oM (M:=d.F) (E:=E) hs kk (Bw.st_points_r<|by simpa using c)).gQ s1<|(qC fG).up s1
 have c:fE W i n=ao:=by simpa using c
 refine jP (D4 (E:=E) (v0 s1) (aj (i:=3) J wM<|wM.up s1 h4)) λu H2 s2 q2=>?_;have dN:=s1.trans s2;obtain⟨x,y,z,rfl⟩:=list3N Dk;rcases Ht q2 with⟨hf,rfl⟩|⟨hf,q3,hN⟩
 ·refine iG (a:=ao) (λH3 Q3 s3 k3=>⟨_,J,J,_,J,k3 H3 sr⟩) (λ_ H3 s3=>?_) (λc=>nomatch c)
  exact(oM (M:=d.F) (E:=E) hs kk (Bw.st_points_n c<|by simpa using hf)).gQ (dN.trans s3) ((qC fG).up<|dN.trans s3)
 ·have t2:NB aK [L<|.ref a,L w2,L w3,L w4,L u,ah,ah] H2 _:=yS (C:=d.F) (E:=E)<|aj (i:=4) J (λ_ _ _ _ _ h=>h) hN
  refine iG t2 (λc=>nomatch c) λ_ H3 s3=>?_;have gG:=dN.trans s3;obtain⟨pr,vr,rfl,hpr,har,_⟩:=q3;have kk:=λn l=>oM (M:=d.F) (E:=E) (n:=n) (l:=l) hs kk;rw[Bw.st_points_i c hf] at kk;have bl:=V2 hs.ok.2.1 i.toNat n.toNat;refine⟨eI _,λl5 Le=>?_⟩;have s4:az H3 (aC H3 l5<|.lst []):=az.new Le;have gU:=gG.trans s4;have n0:H l5=ah:=gG.free Le;refine⟨λH'=>az H H'/\ba (placeOf k ⟨x,y,z⟩) ((W.bodies.drop i.toNat).take n.toNat)=ah,?_,λaS H'⟨s5,e5⟩_=>?_⟩
  ·refine(Ma (E:=λ_ _ H'=>az H H'/\ba (placeOf k ⟨x,y,z⟩) ((W.bodies.drop i.toNat).take n.toNat)=ah) (σ:=[L<|.ref a,L w2,L w3,L w4,L<|.ref pr,L<|.ref l5,ah]) T (v0 gU) v1 v2 c).go λv H5 s5⟨q,vq,eq,hq,ha,Dl⟩=>?_
   subst eq;generalize yB:(W.bodies.drop i.toNat).take n.toNat=bs at*;have lP:=gU.trans s5;have e5:H5 l5=L (.lst []):=s5 _ _ bp;have LZ:q≠l5:=λz=>by rw[z,bp] at Dl;cases Dl
   refine⟨q,J,⟨_,SqL.of hq⟩,?_⟩;refine Ay (K:=K) (xs:=vq) (λj aS H'=>∃(x6:aw V)(zs:ag dP),aS=[L<|.ref a,L w2,L w3,L w4,L<|.ref pr,L<|.ref l5,x6]/\sW K k H5 H' l5 (zs.flatMap oj)/\ba (placeOf k ⟨x,y,z⟩) (bs.take j)=L zs)
    ⟨ah,[],J,⟨λc o e _=>e,[],e5,cg⟩,by rw[mP];rfl⟩ (λj aS H' _⟨_,_,_,g,_⟩=>SqL.of<|g.sx _ _ hq LZ) (λj yv aS H' hy I=>?_) λaS H' I=>?_
   ·obtain⟨x6,zs,rfl,g,ez⟩:=I
    obtain⟨b,hb,rb⟩:=ha.get hy;have i5:fJ H5 H':=g.sx.i e5;have sJ:az H H':=g.up lP n0;have rV:=s3 _ _ hpr;have rr':kS K k H' (.ref pr) ⟨x,y,z⟩:=r3l_of ⟨pr,vr,J,SqL.of (g.sx _ _ ((s4.trans s5) _ _ rV)<|dv rV Le),har.imp λv x h=>du _ _ _ _ (((s3.trans s4).trans s5).i.1.trans i5.1) h⟩;refine⟨_,J,.inl ⟨J,_,SqL.of g.ex.choose_spec.1⟩,?_⟩;have uC:NT d.F (λ_ _ H'=>az H H'/\ba (placeOf k ⟨x,y,z⟩) bs=ah) (R3 K k) (placeOf k ⟨x,y,z⟩ b) [L<|.ref a,L w2,L w3,L w4,L<|.ref pr,L<|.ref l5,L yv] H' _:=cP (t:=L ((),b,(⟨x,y,z⟩:dP),())) (f:=λx=>(pq k x.2.1.turn x.2.2.1).bind λa=>iR k x.2.1.at_ a) (aF aM (uA T<|v0 sJ)<|aF cu (aj (i:=6) J cu<|uo.up i5 rb)<|aF nR (aj (i:=4) J nR rr') bQ);refine uC H' _ sr ⟨λH6 u6 p s6 ep q6=>?_,λH6 s6 e6=>⟨sJ.trans s6,Bw.Io hb e6⟩⟩;obtain⟨tp,vt,e7,ht,hv⟩:=pW q6;subst e7;obtain⟨vs,ev,lv,g2⟩:=g.more s6 hv;have lj:zs.length<=bs.length:=by rw[Bw.iI ez,km];omega
    refine⟨l5,tp,vs,vt,J,J,ev,ht,?_,_,zs++[p],J,?_,?_⟩
    ·rw[lv,Bw.N2,hv.bG]
     show 3*zs.length+3<=bH;have:(20000:af)<=bH:=by decide
     omega
    ·rw[W6]
     show sW K k H5 _ l5<|zs.flatMap oj++(p.list++[]);rw[o8];exact g2
    ·rw[Bv hb,ez,ep]
     rfl
   ·obtain⟨x6,zs,rfl,g,ez⟩:=I
    have dG:vq.length=bs.length:=ha.bG;rw[dG,lS] at ez;rw[ez] at kk;have sJ:az H H':=g.up lP n0;obtain⟨vs,ev,hv⟩:=g.ex;have lz:(zs.flatMap oj).length<=28672:=by rw[Bw.N2,Bw.iI ez];omega
    exact(kk 0 (zs.flatMap oj) J).gQ sJ<|(A_ fG (Hg (v0 sJ)<|aj (i:=5) J LN ⟨⟨l5,vs,J,SqL.of ev,hv⟩,om⟩) (by rw[AS];omega)).up sJ
  ·rw[e5] at kk
   exact(kk (-5) [] J).gQ s5<|(qC fG).up s5
end
end BW
namespace BW
open PySem PySem.Spec PyProof.Rows L2
open Bw (bS cQ bf cn ba fE sH)
section
variable{P:cN}{w:World}{K:aq}{mg:ax->aw aE}{base:b9}{d:Cs}{k:aB}
theorem DQ:kI "nearest_bits":=pK _ dk
theorem nt_near(hk:bS k)(h0:NT d.F E (RK d.K j) (L ()) σ H te)(h1:NT d.F E (RC K k) (L x) σ H t1):NT d.F E RI (L (J3 k j x:af)) σ H (eu d.K "nearest_bits" (ND K d.F d.K k j) [] E te<|aU t1 b8):=λU Q s kk=>
 (h0.at_ s).go λv H2 s2 q=>by
   obtain⟨a,dx,fs,e1,e2,e3⟩:=uP DQ.1 DQ.2.1 DQ.2.2.1 DQ.2.2.2.1 DQ.2.2.2.2 q;exact⟨a,dx,fs,e1,e2,e3,(h1.at_<|s.trans s2).go λu H3 s3 q3=>⟨((),x,()),⟨⟨v,_,J,aM.up s3 q,u,_,J,q3,J⟩,hk⟩,kk.at_<|s2.trans s3⟩⟩
abbrev Vi(K:aq)(d:Cs)(k:aB):Sp:=p_ K d k (aQ RI (aQ RI<|aQ (RK d.K<|Cp k) cq)) (λx=>.frame x.1 x.2.1) vO
theorem Et:bE ["self","first","n","other","found","body","x"] ["self","first","n","other"] (bw<|sS 15):=fs
theorem ok_frame{f:ak}{fd:cX}(F:bz K "frame" "Scene.frame" (sS 15) f fd)(X:SX P w K mg base d)(k:aB):aD P w K mg base (aO P w d.F) 50 f fd ["self","first","n","other"]<|Vi K d k:=by
 obtain⟨f1,bZ,M1,b1,O1⟩:=X.yB;obtain⟨f2,dg,M2,b2,O2⟩:=X.nb k;obtain⟨c4,e4⟩:=X.cOR;have T:=X.T;refine F.oc Et λH Q E hr h=>?_;obtain⟨a,pb,ps,W,⟨i,n,_,_⟩,r,rfl,hs,⟨w2,r2,rfl,h2,w3,r3,rfl,h3,w4,r4,rfl,h4,rfl⟩,kk⟩:=h
 refine⟨_,aG (dU (uL (iT<|bV (O 0) T.cl M1 (O1 k) (hr.aV dc) b1 .nil aA (bJ (O 1)<|O 2))) (aR (bg<|gj (bu<|dF J e4 (v:=.int (-2)) ⟨c4,J⟩))) d5)
  (aG (bA 4 Et.nd<|gj uH)
  (aG (nW mr J (jf (lJ lO (bh<|O 0) (gb<|O 1)<|gb (bL fu (O 1)<|O 2))) (ej 5 Et.nd)
    (aR<|pU (uJ vM O0 O8 So (O 4)<|bu (bL xa (bh<|O 5) (bh<|O 5)))))
  (aR<|bg (bL uE (gj<|bu a_) (oH (own:=[("x",6)]) J J J jM J Et.nd (jf<|O 4) bk (λ_ _ _ _ _=>ej 6 Et.nd) (λ_ _ _ _ _=>jh) λ_ _ _ _ _=>bV (O 3) X.TK.cl M2 (O2<|Cp k) (hr.aV dc) b2 .nil jO (bu<|O 6)))))),?_⟩
 have h1:eS K d k H (.ref a) W:=⟨a,pb,ps,J,hs⟩;have hk:=hs.yM;have v0:∀{H2:Hp}{x y z:aw V},az H H2->NT d.F E (eS K d k) (L W) [L<|.ref a,L w2,L w3,L w4,x,y,z] H2 (au 0):=λs=>aj J fk<|fk.up s h1;have v1:∀{H2:Hp}{x y z:aw V},NT d.F E RI (L i) [L<|.ref a,L w2,L w3,L w4,x,y,z] H2<|au 1:=aj J ia h2;have v2:∀{H2:Hp}{x y z:aw V},NT d.F E RI (L n) [L<|.ref a,L w2,L w3,L w4,x,y,z] H2<|au 2:=aj J ia h3;have t1:NB (!fE W i n) [L<|.ref a,L w2,L w3,L w4,ah,ah,ah] H _:=wN (qA<|Hm (v0<|az.refl H) v1 v2);refine iG t1 (λc U s1=>?_) λc U s1=>?_
 ·exact(oM (M:=d.F) (E:=E) hs kk (Bw.st_frame_r<|by simpa using c)).gQ s1<|(qC fG).up s1
 have c:fE W i n=ao:=by simpa using c
 have kk:=oM (M:=d.F) (E:=E) hs kk<|Bw.st_frame_s c;have bl:=V2 hs.ok.2.1 i.toNat n.toNat;refine⟨eI _,λl4 Gw=>?_⟩;have s4:az U (aC U l4<|.lst []):=az.new Gw;have gU:=s1.trans s4;have n0:H l4=ah:=s1.free Gw;refine(Ma (E:=E) T (v0 gU) v1 v2 c).go λv H5 s5⟨q,vq,eq,hq,ha,Dl⟩=>?_;subst eq;generalize yB:(W.bodies.drop i.toNat).take n.toNat=bs at*;have lP:=gU.trans s5;have e5:H5 l4=L (.lst []):=s5 _ _ bp;have LZ:q≠l4:=λz=>by rw[z,bp] at Dl;cases Dl
 refine⟨q,J,⟨_,SqL.of hq⟩,?_⟩;refine Ay (K:=K) (xs:=vq) (λj aS H'=>∃(x5:aw V),aS=[L<|.ref a,L w2,L w3,L w4,L<|.ref l4,x5,ah]/\sW K k H5 H' l4 ((bs.take j).flatMap sH))
  ⟨ah,J,λc o e _=>e,[],e5,by rw[mP];trivial⟩ (λj aS H' _⟨_,_,g⟩=>SqL.of<|g.sx _ _ hq LZ) (λj yv aS H' hy I=>?_) λaS H' I=>?_
 ·obtain⟨x5,rfl,g⟩:=I
  obtain⟨b,hb,rb⟩:=ha.get hy;have i5:fJ H5 H':=g.sx.i e5;refine⟨_,J,.inl ⟨J,_,SqL.of g.ex.choose_spec.1⟩,?_⟩;have vb:NT d.F E (ck K d.B k) (L b) [L<|.ref a,L w2,L w3,L w4,L<|.ref l4,L yv,ah] H'<|au 5:=aj J cu<|uo.up i5 rb;refine(wX aI ((yU X.TB vb).conv λ_ _=>pW) ((wW X.TB vb).conv λ_ _=>Um) (by simp[oj]) (by simp[XX]) (by show 3+4<=bH;decide)).go λu6 H6 s6 q6=>?_;obtain⟨tp,vt,e7,ht,hv⟩:=q6;subst e7;obtain⟨vs,ev,lv,g2⟩:=g.more s6 hv;refine⟨l4,tp,vs,vt,J,J,ev,ht,?_,_,J,?_⟩
  ·rw[lv,Bw.Nc,hv.bG,km]
   show 7*min j bs.length+7<=bH;have:(30000:af)<=bH:=by decide
   omega
  ·rw[Bw.take_snoc hb,W6]
   show sW K k H5 _ l4<|(bs.take j).flatMap sH++(sH b++[]);rw[o8];exact g2
 ·obtain⟨x5,rfl,g⟩:=I
  have dG:vq.length=bs.length:=ha.bG;rw[dG,lS] at g;have sJ:az H H':=g.up lP n0;obtain⟨vs,ev,hv⟩:=g.ex;have lz:(bs.flatMap sH).length<=28672:=by rw[Bw.Nc];omega
  have nl:NT d.F E (fI RI) (L (Rb49Neutral.ints<|(bs.flatMap sH).map (J3 k<|Cp k))) [L<|.ref a,L w2,L w3,L w4,L<|.ref l4,x5,ah] H' _:=(Ho (K:=K) (i:=6) (vs:=[6]) (R:=RI) (R':=RC K k) (λ_ _ _ _ _ _ _ h=>h) ia aI (aj (i:=4) J (cw aI) ⟨l4,vs,J,SqL.of ev,hv⟩) (dJ lz dc) (λ_=>J) λH2 v y s _ r=>nt_near hk (aj (i:=3) J aM<|aM _ _ _ _ (sJ.trans s) h4)<|aj (i:=6) J aI r).eq (by rw[Bw.lN];unfold Rb49Neutral.ints;rw[OA];rfl);exact kk.gQ sJ<|(A_ fG nl (by rw[AS,hJ];omega)).up sJ
def Vd(K:aq)(d:Cs)(k:aB):Sp:=λvs H Q _=>∃(Hb:Hp)(p dx:ak)(v:V),vs=[.ref p,v]/\H p=L (.ins d.C dx [])/\az Hb H/\Hb p=ah/\RK d.K k Hb v ()/\ ∀H' pb ps,az Hb H'->Hb pb=ah->Hb ps=ah->eO K d k H' p pb ps {}->Q .cE H'
theorem scCI:bE ["self","kind"] ["self","kind"] (bw<|sS 0):=fs
theorem ok_cinit(F:bz K "__init__" "Scene.__init__" (sS 0) f fd)(T:Tx K mg d.C "Scene" ou)(k:aB):aD P w K mg base (aO P w d.F) 10 f fd ["self","kind"]<|Vd K d k:=by
 refine F.pQ scCI (λvs H Q E h=>?_) λcG A bC s H vs Q E hr h=>?_
 ·obtain⟨Hb,p,dx,v,rfl,_⟩:=h
  rfl
 ·obtain⟨Hb,p,dx,v,rfl,hp,sb,hn,h1,kk⟩:=h
  refine⟨_,aG (dH (O 0) (O 1) J) (aG (dH (O 0) (gj uH) J)<|aG (dH (O 0) (gj uH) J) (aR<|dH (O 0) nV J)),?_⟩;refine⟨_,J,_,J,p,d.C,dx,_,J,hp,T.cl,T.na _ dk,(by decide),?_⟩;refine⟨eI _,λl1 qp=>⟨_,J,p,d.C,dx,aY "kind" v [],J,?_,T.cl,T.na _ dk,(by show 1<1000;decide),?_⟩⟩
  ·rw[bI λz=>by rw[<-z,bp] at qp;cases qp];exact bp
  have n1:l1≠p:=λz=>by rw[z,bp] at qp;cases qp
  have b1:az Hb<|aC (aC H p (.ins d.C dx<|aY "kind" v [])) l1<|.lst []:=λc o e=>by
   rw[bI<|dv (sb _ _ e) (by rw[bI n1] at qp;exact qp),bI<|dv e hn];exact sb _ _ e
  refine⟨eI _,λl2 hX=>⟨_,J,p,d.C,dx,aY "bodies" (.ref l1)<|aY "kind" v [],J,?_,T.cl,T.na _ dk,(by show 2<1000;decide),?_⟩⟩
  ·rw[bI λz=>by rw[<-z,bp] at hX;cases hX];exact bp
  have n2:l2≠p:=λz=>by rw[z,bp] at hX;cases hX
  have Sq:l1≠l2:=λz=>by rw[<-z,bI n1,bp] at hX;cases hX
  refine⟨_,J,p,d.C,dx,_,J,bp,T.cl,T.na _ dk,(by show 3<1000;decide),?_⟩;have e2:=by rw[bI n2] at hX;exact hX
  have bb:az Hb<|aC (aC (aC (aC (aC (aC H p<|.ins d.C dx _) l1<|.lst []) p<|.ins d.C dx (aY "bodies" (.ref l1)<|aY "kind" v [])) l2<|.lst []) p (.ins d.C dx<|aY "springs" (.ref l2) (aY "bodies" (.ref l1)<|aY "kind" v []))) p (.ins d.C dx<|iV v (.ref l1) (.ref l2) .cE):=λc o e=>by
   have np:=dv e hn;rw[bI np,bI np,bI<|dv (b1 _ _ e) e2,bI np];exact b1 _ _ e
  have h0:=by rw[bI n1] at qp;exact qp
  refine kk _ l1 l2 bb (sb.free h0) (b1.free e2) ⟨dx,v,.cE,[],[],bp,aM.up bb h1,.inl ⟨J,J⟩,?_,cg,?_,cg,Sq,(λ_ h=>nomatch h),dc,dc⟩
  ·rw[bI n1,bI n1,bI Sq,bI n1,bp]
  ·rw[bI n2,bI n2,bp]
end
end BW
namespace BW
open PySem PySem.Spec PyProof.Rows L2
open Bw (bS fA NS gK gd)
open Rb49Neutral (kindOf nats)
structure Pl where
 ds:ak
 ra:ak
 la:ak
 g:ak
 calls:ag ae
 gv:ag V
 aW:ag (gV×V)
 A:ae->ak
 B:ae->ak
 S:ae->ak
structure fQ(K:aq)(d:Cs)(p:Pl)(H:Hp)(n:af)(s:NS):Prop where
 rd:vW K d H p.ra p.la p.calls n
 gl:H p.g=L (.lst p.gv)
 dk:H p.ds=L (.dK p.aW)
 sc:∀o W,s o=L W->fw p.aW (eP o)=L (.ref<|p.A o)/\eO K d (kindOf o) H (p.A o) (p.B o) (p.S o) W/\p.B o≠p.g/\p.S o≠p.g
 ap:∀o j W W',s o=L W->s j=L W'->o≠j->p.A o≠p.A j/\p.B o≠p.B j/\p.S o≠p.S j/\p.B o≠p.S j
def Ji(K:aq)(d:Cs)(p:Pl)(s:NS)(o:ae)(q:Fz)(t:ag ae)(Q:VK):Prop:=∀H' v aW A B S n,aW.length<=p.aW.length+1->fQ K d {p with aW:=aW,A:=A,B:=B,S:=S} H' n (gK s o q).1->p.calls.drop n=t->(∃a,v= .ref a/\a≠p.g/\H' a=L (.lst<|(gK s o q).2.map V.int))->Q v H'
structure ph(d:Cs):Prop where
 k:d.K≠d.R
 b:d.B≠d.R
 s:d.S≠d.R
 c:d.C≠d.R
 kc:d.K≠d.C
 bc:d.B≠d.C
 sc:d.S≠d.C
theorem eO.Al{K:aq}(h:eO K d k H a pb ps W):(∃dx fs,H a=L (.ins d.C dx fs))/\(∃vs,H pb=L (.lst vs))/\(∃vs,H ps=L (.lst vs))/\pb≠ps:=by
 obtain⟨dx,vk,vw,vb,vs,h1,h2,h3,h4,h5,h6,h7,h8⟩:=h;exact⟨⟨dx,_,h1⟩,⟨vb,h4⟩,⟨vs,h6⟩,h8.1⟩
section
variable{K:aq}{d:Cs}{p:Pl}{H H':Hp}{n m:af}{s:NS}{o:ae}{W W':rm}{Q:VK}{E:XK}{σ:L2.St}{q:Fz}{r t l:ag ae}{x:ae}
theorem fQ.same(h:fQ K d p H n s)(e:az H H'):fQ K d p H' n s:=⟨⟨⟨h.rd.1.choose,e _ _ h.rd.1.choose_spec⟩,h.rd.2.1.same e.i.1,h.rd.2.2⟩,e _ _ h.gl,e _ _ h.dk,λo W hs=>⟨(h.sc o W hs).1,(h.sc o W hs).2.1.same e,(h.sc o W hs).2.2⟩,h.ap⟩
theorem fQ.Ua(N:ph d)(h:fQ K d p H n s)(sx:gA p.ra H H')(rd:vW K d H' p.ra p.la p.calls m):fQ K d p H' m s:=by
 obtain⟨dx,hr⟩:=h.rd.1;have ins:∀D,D≠d.R-> ∀b e f,H b=L (.ins D e f)->H' b=L (.ins D e f):=λD nD b e f z=>sx _ _ z<|eF z hr λw=>by cases w;exact nD J
 refine⟨rd,sx _ _ h.gl<|eF h.gl hr (by intro z;cases z),sx _ _ h.dk<|eF h.dk hr (by intro z;cases z),λo W hs=>?_,h.ap⟩;obtain⟨a1,a2,a3⟩:=h.sc o W hs;obtain⟨⟨pB,fs,b1⟩,⟨v1,b2⟩,⟨v2,b3⟩,_⟩:=a2.Al;have nA:=eF b1 hr λw=>by injection w with e1;exact N.c e1
 have nB:=eF b2 hr (by intro z;cases z);have nS:=eF b3 hr (by intro z;cases z);exact⟨a1,a2.CT ⟨sx.t hr,ins _ N.k,ins _ N.b,ins _ N.s⟩ (λ_ z=>sx _ _ z nA) (λ_ z=>sx _ _ z nB) λ_ z=>sx _ _ z nS,a3⟩
theorem fQ.call(N:ph d)(h:fQ K d p H n s)(hs:s o=L W)(kp:Kept H H' (p.A o) (p.B o) (p.S o) pb ps)(sc:eO K d (kindOf o) H' (p.A o) pb ps W'):fQ K d {p with B:=λj=>if j=o then pb else p.B j,S:=λj=>if j=o then ps else p.S j} H' n λj=>if j=o then L W' else s j:=by
 obtain⟨a1,a2,a3,a4⟩:=h.sc o W hs;obtain⟨⟨pB,fs,b1⟩,⟨v1,b2⟩,⟨v2,b3⟩,_⟩:=a2.Al;have rN:∀c u,H c=L u->(∀dx fs,u≠ .ins d.C dx fs)->(∀v,u≠ .lst v)->H' c=L u:=λc u e n1 n2=>kp.same c u e (eF e b1<|n1 _ _) (eF e b2<|n2 _) (eF e b3<|n2 _);have st:cp H H':=⟨λb xs e=>rN b _ e (by intro _ _ z;cases z) (by intro _ z;cases z),λb o u e=>rN b _ e (by intro _ _ z;cases z) (by intro _ z;cases z)⟩;have ins:∀D,D≠d.C-> ∀b e f,H b=L (.ins D e f)->H' b=L (.ins D e f):=λD nD b e f z=>rN b _ z (λ_ _ w=>by cases w;exact nD J) (by intro _ w;cases w);obtain⟨dx,hr⟩:=h.rd.1;have other:∀j V,s j=L V->j≠o->(p.A j≠p.A o/\p.B j≠p.B o/\p.S j≠p.S o/\p.B j≠p.S o/\p.S j≠p.B o)/\eO K d _ H' _ _ _ V/\(p.B j≠pb/\p.S j≠pb/\p.B j≠ps/\p.S j≠ps):=λj V hj ne=>by
  obtain⟨c1,c2,c3,c4⟩:=h.ap j o V W hj hs ne;have c5:=(h.ap o j W V hs hj<|dy ne).2.2.2;have q2:=(h.sc j V hj).2.1;obtain⟨⟨pB,fs,e1⟩,⟨v1,e2⟩,⟨v2,e3⟩,_⟩:=q2.Al;refine⟨⟨c1,c2,c3,c4,dy c5⟩,q2.CT ⟨st,ins _ N.kc,ins _ N.bc,ins _ N.sc⟩ (λ_ z=>kp.same _ _ z c1 (eF e1 b2 (by intro z;cases z))<|eF e1 b3 (by intro z;cases z)) (λ_ z=>kp.same _ _ z (eF e2 b1 (by intro z;cases z)) c2 c4) λ_ z=>kp.same _ _ z (eF e3 b1 (by intro z;cases z)) (dy c5) c3,?_⟩;rcases kp.b with rfl|kb
  ·rcases kp.s with rfl|ks
   ·exact⟨c2,dy c5,c4,c3⟩
   ·exact⟨c2,dy c5,dv e2 ks,dv e3 ks⟩
  ·rcases kp.s with rfl|ks
   ·exact⟨dv e2 kb,dv e3 kb,c4,c3⟩
   ·exact⟨dv e2 kb,dv e3 kb,dv e2 ks,dv e3 ks⟩
 refine⟨⟨⟨dx,rN _ _ hr (λ_ _ w=>by injection w with e1;exact N.c e1.symm) (by intro _ w;cases w)⟩,h.rd.2.1.same st,h.rd.2.2⟩,kp.same _ _ h.gl (eF h.gl b1 (by intro z;cases z)) (dy a3)<|dy a4,rN _ _ h.dk (by intro _ _ z;cases z) (by intro _ z;cases z),λj V hj=>?_,λi j V V' hi hj ne=>?_⟩
 ·by_cases e:j=o
  ·subst e
   simp[aH] at hj
   cases hj
   simp[aH];refine⟨a1,sc,?_,?_⟩
   ·rcases kp.b with rfl|kb
    ·exact a3
    ·exact dy<|dv h.gl kb
   ·rcases kp.s with rfl|ks
    ·exact a4
    ·exact dy<|dv h.gl ks
  ·simp[ay e] at hj⊢
   exact⟨(h.sc j V hj).1,(other j V hj e).2.1,(h.sc j V hj).2.2⟩
 ·by_cases e1:i=o
  ·have e2:j≠o:=λz=>ne<|e1.trans z.symm
   subst e1;simp[ay e2] at hj;simp[aH,ay e2];obtain⟨f1,f2,f3⟩:=other j V' hj e2;exact⟨dy f1.1,dy f3.1,dy f3.2.2.2,dy f3.2.1⟩
  ·simp[ay e1] at hi
   by_cases e2:j=o
   ·subst e2
    simp[aH,ay e1];obtain⟨f1,f2,f3⟩:=other i V hi e1;exact⟨f1.1,f3.1,f3.2.2.2,f3.2.2.1⟩
   ·simp[ay e2] at hj
    simp[ay e1,ay e2];exact h.ap i j V V' hi hj ne
theorem SG(hs:s o=L W)(e:(cH (kindOf o) (L W) q).1=L W'):(gK s o q).1=λj=>if j=o then L W' else s j:=by
 unfold gK;rw[hs,e]
theorem SH(hs:s o=L W):(gK s o q).2=(cH (kindOf o) (L W) q).2.value::Rb49Neutral.ints (cH (kindOf o) (L W) q).2.out:=by
 unfold gK;rw[hs]
theorem C6(N:ph d)(h:fQ K d p H n s)(hs:s o=L W)(kk:Ji K d p s o q t Q)(hd:p.calls.drop n=t):∀H' v gg jA W',(cH (kindOf o) (L W) q).1=L W'->Kept H H' (p.A o) (p.B o) (p.S o) gg jA->eO K d (kindOf o) H' (p.A o) gg jA W'->xR H H' v (cH (kindOf o) (L W) q).2->([v].length<=bH/\ ∀a,H' a=ah->Q (.ref a) (aC H' a<|.lst [v])):=λH' v gg jA W' e kp sc ra=>by
 refine⟨(by show 1<=bH;decide),λa ha=>?_⟩;have hc:=h.call N hs kp sc;refine kk _ _ p.aW p.A _ _ n (JK _) (by rw[SG hs e];exact hc.same<|az.new ha) hd ⟨a,J,dy<|dv hc.gl ha,?_⟩;rw[bp,SH hs,ra.1,ra.2];rfl
theorem Aw(N:ph d)(h:fQ K d p H n s)(hs:s o=L W)(kk:Ji K d p s o q t Q)(hd:p.calls.drop n=t):∀H' v gg jA W',(cH (kindOf o) (L W) q).1=L W'->Kept H H' (p.A o) (p.B o) (p.S o) gg jA->eO K d (kindOf o) H' (p.A o) gg jA W'->vO H H' v (cH (kindOf o) (L W) q).2->Q v H':=λH' v gg jA W' e kp sc⟨a,ev,ha,hl⟩=>by
 have hc:=h.call N hs kp sc;exact kk _ _ p.aW p.A _ _ n (JK _) (by rw[SG hs e];exact hc) hd ⟨a,ev,dy<|dv h.gl ha,by rw[hl,SH hs]⟩
theorem Bn(N:ph d)(h:fQ K d p H n s)(hd:p.calls.drop n=x::r)(hv:σ[i]? =L (L<|.ref p.ra))(k:∀H',fQ K d p H' (n+1) s->p.calls.drop (n+1)=r->Q (.int x) H'):eu d.R "take" (BA K d) [] E (au i) b8 σ H Q:=by
 obtain⟨dx,h1⟩:=h.rd.1;obtain⟨e1,e2,e3⟩:=Bw.Ku hd;exact⟨_,hv,p.ra,dx,_,J,h1,HI dk,p.ra,p.la,p.calls,n,x,J,h.rd,e1,λH' sx rd=>k H' (h.Ua N sx rd) e2⟩
theorem Eh(N:ph d)(h:fQ K d p H n s)(hd:p.calls.drop n=(l.length:ae)::(l++t))(hv:σ[i]? =L (L<|.ref p.ra))(k:∀H' a,fQ K d p H' (n+1+l.length) s->p.calls.drop (n+1+l.length)=t->H' a=L (.lst<|l.map V.int)->Q (.ref a) H'):eu d.R "take_row" (NM K d) [] E (au i) b8 σ H Q:=by
 obtain⟨dx,h1⟩:=h.rd.1;obtain⟨e1,e2,e3⟩:=Bw.Ku hd;exact⟨_,hv,p.ra,dx,_,J,h1,HI dk,p.ra,p.la,p.calls,n,l,t,J,h.rd,hd,λH' a sx rd _ ha=>k H' a (h.Ua N sx rd) (Bw.Qm om e2).1 ha⟩
theorem M5(N:ph d)(h:fQ K d p H n s)(hd:p.calls.drop n=o::r)(hs:s o=L W)(Lm:σ[0]? =L (L<|.ref p.ds))(Ln:σ[1]? =L (L<|.ref p.ra))(k:∀H',fQ K d p H' (n+1) s->p.calls.drop (n+1)=r->Q (.ref<|p.A o) H'):EM (au 0) (eu d.R "take" (BA K d) [] E (au 1) b8) σ H Q:=⟨_,Lm,Bn N h hd Ln λH' h' e=>by
                                                                                                                                                                                                                                                                 have g:=oZ.k (k:=eP o) h'.dk;rw[(h'.sc o W hs).1] at g
                                                                                                                                                                                                                                                                 exact⟨p.ds,_,J,g,k H' h' e⟩⟩
theorem Ul:∀{l:ag ae},(∀z∈l,gd o z)->cf (RX (kindOf o) H) (l.map V.int) (nats l)
 |[],_=>trivial
 |z::l,h=>⟨⟨by rw[BR (h z ik).1],(h z ik).2⟩,Ul λy hy=>h y<|gz _ hy⟩
theorem Ek(h:∀z∈l,gd o z)(hl:l.length<=4096)(ha:H a=L (.lst<|l.map V.int)):xS K (kindOf o) H (.ref a)<|nats l:=⟨⟨a,_,J,SqL.of ha,Ul h⟩,by rw[Bw.A7];exact hl⟩
theorem xm{m:ax}(h:fQ K d p H n s)(hs:s o=L W)(hm:G' m=ao)(hv:σ[i]? =L (L (.ref<|p.A o)))(k:ta σ H λvs H2=>sp (.ref (p.A o)::(vs++[])) H2 Q E):eu d.C m sp [] E (au i) ta σ H Q:=by
 obtain⟨dx,vk,vw,vb,vs,h1,_⟩:=(h.sc o W hs).2.1;exact⟨_,hv,p.A o,dx,_,J,h1,EA hm,k⟩
end
end BW
namespace BW
open PySem PySem.Spec PyProof.Rows L2
open Bw (bS fA NS gK gd)
open Rb49Neutral (kindOf nats)
section
variable{K:aq}{d:Cs}{p:Pl}{H H':Hp}{n m:af}{s:NS}{o:ae}{W:rm}{E:XK}{σ:L2.St}{r:ag ae}{x:ae}{u:TS}{D:Ends}
theorem xn(N:ph d)(h:fQ K d p H n s)(hd:p.calls.drop n=o::r)(hs:s o=L W)(Lm:σ[0]? =L (L<|.ref p.ds))(Ln:σ[1]? =L (L<|.ref p.ra))(k:∀H',fQ K d p H' (n+1) s->p.calls.drop (n+1)=r->u D (σ.set i<|L (.ref<|p.A o)) H'):oS (jU (EM (au 0)<|eu d.R "take" (BA K d) [] E (au 1) b8)<|eE i) u D σ H:=M5 N h hd hs Lm Ln k
theorem nX(N:ph d)(h:fQ K d p H n s)(hd:p.calls.drop n=x::r)(hv:σ[i]? =L (L<|.ref p.ra))(k:∀H',fQ K d p H' (n+1) s->p.calls.drop (n+1)=r->u D (σ.set j (L<|.int x)) H'):oS (jU (eu d.R "take" (BA K d) [] E (au i) b8)<|eE j) u D σ H:=Bn N h hd hv k
theorem putK_len{k:gV}:(iU aW k v).length<=aW.length+1:=by
 unfold iU
 split
 ·rw[hJ]
  exact JK _
 ·rw[iL]
  exact dO _
theorem fQ.new(h:fQ K d p H n s)(sm:az H H')(fa:H a=ah)(fb:H pb=ah)(fs:H ps=ah)(sc:eO K d (kindOf o) H' a pb ps {}):fQ K d {p with aW:=iU p.aW (eP o)<|.ref a,A:=λj=>if j=o then a else p.A j,B:=λj=>if j=o then pb else p.B j,S:=λj=>if j=o then ps else p.S j} (aC H' p.ds<|.dK (iU p.aW (eP o)<|.ref a)) n λj=>if j=o then L {} else s j:=by
 have h':=h.same sm;have ev:∀j,fw (iU p.aW (eP o) _) _=if j=o then L (.ref a) else fw p.aW _:=λj=>by
  rw[BH];by_cases e:j=o
  ·rw[aH e,aH<|by rw[e]]
  ·rw[ay e,ay λz=>e<|X1 z]
 generalize iU p.aW _ _=kv at*;have i:fJ H' (aC H' p.ds<|.dK kv):=fJ.aC (by rw[h'.dk];trivial);have rN:∀c u,H' c=L u->(∀v,u≠ .dK v)->aC H' p.ds (.dK kv) c=L u:=λc u e n1=>by rw[bI (eF e h'.dk<|n1 _)];exact e
 have P8:∀{k:aB}{a pb ps:ak}{W:rm},eO K d k H' a pb ps W->eO K d k (aC H' p.ds _) a pb ps W:=λ{k a' gg jA W'}q=>by
  obtain⟨⟨pB,fs,e1⟩,⟨v1,e2⟩,⟨v2,e3⟩,_⟩:=q.Al;exact q.CT ⟨i.1,λ_ _ _=>i.2 _ _ _ _,λ_ _ _=>i.2 _ _ _ _,λ_ _ _=>i.2 _ _ _ _⟩ (λ_ z=>by rw[e1] at z;cases z;exact rN _ _ e1 (by intro _ z;cases z)) (λ_ z=>by rw[e2] at z;cases z;exact rN _ _ e2 (by intro _ z;cases z)) λ_ z=>by rw[e3] at z;cases z;exact rN _ _ e3 (by intro _ z;cases z)
 obtain⟨dx,hr⟩:=h'.rd.1;have other:∀j V,s j=L V->p.A j≠a/\p.B j≠pb/\p.S j≠pb/\p.B j≠ps/\p.S j≠ps:=λj V hj=>by
  obtain⟨⟨pB,jw,e1⟩,⟨v1,e2⟩,⟨v2,e3⟩,_⟩:=(h.sc j V hj).2.1.Al;exact⟨dv e1 fa,dv e2 fb,dv e3 fb,dv e2 fs,dv e3 fs⟩
 refine⟨⟨⟨dx,i.2 _ _ _ _ hr⟩,h'.rd.2.1.same i.1,h'.rd.2.2⟩,rN _ _ h'.gl (by intro _ z;cases z),bp,λj V hj=>?_,λx j V V' hx hj ne=>?_⟩
 ·show fw kv _=_/\_
  rw[ev];by_cases e:j=o
  ·subst e
   simp[aH] at hj
   cases hj
   simp only[aH];exact⟨cg,P8 sc,dy<|dv h.gl fb,dy<|dv h.gl fs⟩
  ·simp[ay e] at hj⊢
   exact⟨(h.sc j V hj).1,P8 (h'.sc j V hj).2.1,(h.sc j V hj).2.2⟩
 ·by_cases e1:x=o
  ·have e2:j≠o:=λz=>ne<|e1.trans z.symm
   subst e1;simp[ay e2] at hj;simp[aH,ay e2];obtain⟨f1,f2,f3,f4,f5⟩:=other j V' hj;exact⟨dy f1,dy f2,dy f5,dy f3⟩
  ·simp[ay e1] at hx
   by_cases e2:j=o
   ·subst e2
    simp[aH,ay e1];obtain⟨f1,f2,f3,f4,f5⟩:=other x V hx;exact⟨f1,f2,f5,f4⟩
   ·simp[ay e2] at hj
    simp[ay e1,ay e2];exact h.ap x j V V' hx hj ne
end
section
variable(P:cN)(w:World)(K:aq)(mg:ax->aw aE)(base:b9)(d:Cs)
def IB(d:Cs)(f:ae->aB):Sp:=λvs H Q E=>∃o,vs=[.int o]/\bW d.F (RK d.K<|f o) H (L ()) Q E
def FD(l:af)(x:ax)(ps:ag ax)(sp:Sp):Prop:=∃(f:ak)(fd:cX),o_ K d.R x f/\Binds K fd ps []/\aD P w K mg base (aO P w d.F) l f fd ps sp
def Js(l:af)(x:ax)(ps:ag ax)(sp:Sp):Prop:=∃(f:ak)(fd:cX),mg x=L (.ref f)/\jn K (.ref f)=ao/\Binds K fd ps []/\aD P w K mg base (aO P w d.F) l f fd ps sp
structure HX:Prop where
 TC:jq mg
 TK:i' K mg d.F d.K
 T:Tx K mg d.C "Scene" ou
 TR:Tx K mg d.R "Reader" Bk
 N:ph d
 ri:∃f fd,Mk K d.R f/\Binds K fd ["self","calls"] []/\aD P w K mg base (aO P w d.F) 10 f fd ["self","calls"] (Vp K d)
 dn:FD P w K mg base d 10 "is_done" ["self"] (Vf K d)
 tk:FD P w K mg base d 10 "take" ["self"] (BA K d)
 tr:FD P w K mg base d 14 "take_row" ["self"] (NM K d)
 ci:∃f fd,Mk K d.C f/\Binds K fd ["self","kind"] []/\ ∀k,aD P w K mg base (aO P w d.F) 10 f fd ["self","kind"] (Vd K d k)
 ko:Js P w K mg base d 10 "kind_of" ["o"] (IB d kindOf)
 ot:Js P w K mg base d 10 "other_kind_than" ["o"] (IB d λo=>Cp<|kindOf o)
 ad:kX P w K mg base d 50 "add_body" ["self","row"] λk=>Va K d k
 as:kX P w K mg base d 50 "add_spring" ["self","i","j","row"] λk=>Vb K d k
 sw:kX P w K mg base d 50 "set_walls" ["self","row"] λk=>Vt K d k
 se:kX P w K mg base d 50 "step" ["self","n","bits"] λk=>Vq K d k
 te:kX P w K mg base d 50 "tell" ["self","first","n","what"] λk=>Vv K d k
 pu:kX P w K mg base d 50 "put" ["self","first","what","row"] λk=>Vo K d k
 su:kX P w K mg base d 50 "sums" ["self"] λk=>Vs K d k
 bo:kX P w K mg base d 50 "box" ["self"] λk=>Vc K d k
 so:kX P w K mg base d 50 "slow" ["self","bits","most"] λk=>Vr K d k
 po:kX P w K mg base d 50 "points" ["self","first","n","row"] λk=>Vn K d k
 fr:kX P w K mg base d 50 "frame" ["self","first","n","other"] λk=>Vi K d k
end
def jQ(K:aq)(d:Cs)(c:ae):Sp:=λvs H Q _=>∃p n s t o q,vs=[.ref p.ds,.ref p.ra]/\fQ K d p H n s/\fA c (p.calls.drop n) t o q/\p.aW.length<=300/\(c=0\/ ∃W,s o=L W)/\Ji K d p s o q t Q
section
variable{P:cN}{w:World}{K:aq}{mg:ax->aw aE}{base:b9}{d:Cs}
theorem scKo:bE ["o"] ["o"] (bw<|aN 99):=fs
theorem scOk:bE ["o"] ["o"] (bw<|aN 100):=fs
theorem ok_kindOf(F:bz K "kind_of" "kind_of" (aN 99) f fd)(m1:mg "make_doubles"=L (.ref f1))(k1:jn K (.ref f1)=ao)(b1:Binds K bZ [] [])(O1:aD P w K mg base (aO P w d.F) 3 f1 bZ []<|xr d.F d.K z8)(m2:mg "make_singles"=L (.ref f2))(k2:jn K (.ref f2)=ao)(b2:Binds K dg [] [])(O2:aD P w K mg base (aO P w d.F) 3 f2 dg []<|xr d.F d.K z_):aD P w K mg base (aO P w d.F) 10 f fd ["o"]<|IB d kindOf:=by
 refine F.pQ scKo (λvs H Q E h=>?_) λcG A bC s H vs Q E hr h=>?_
 ·obtain⟨o,rfl,_⟩:=h
  rfl
 ·obtain⟨o,rfl,kk⟩:=h
  refine⟨_,aR (bg<|mw (dB lG (O 0) a_<|cT _) (HC O1 (hr.aV dc) J m1 k1 b1 .nil aA)<|HC O2 (hr.aV dc) J m2 k2 b2 .nil aA),?_⟩;refine⟨_,J,_,_,J,J,_,J,d4 (λc=>?_) λc=>?_⟩
  ·have e:kindOf o=z8:=aH<|dE c
   rw[e] at kk;exact kk.by<|cP bQ
  ·have e:kindOf o=z_:=ay λz=>c<|dD z
   rw[e] at kk;exact kk.by<|cP bQ
theorem ok_otherKind(F:bz K "other_kind_than" "other_kind_than" (aN 100) f fd)(m1:mg "make_doubles"=L (.ref f1))(k1:jn K (.ref f1)=ao)(b1:Binds K bZ [] [])(O1:aD P w K mg base (aO P w d.F) 3 f1 bZ []<|xr d.F d.K z8)(m2:mg "make_singles"=L (.ref f2))(k2:jn K (.ref f2)=ao)(b2:Binds K dg [] [])(O2:aD P w K mg base (aO P w d.F) 3 f2 dg []<|xr d.F d.K z_):aD P w K mg base (aO P w d.F) 10 f fd ["o"] (IB d λo=>Cp<|kindOf o):=by
 refine F.pQ scOk (λvs H Q E h=>?_) λcG A bC s H vs Q E hr h=>?_
 ·obtain⟨o,rfl,_⟩:=h
  rfl
 ·obtain⟨o,rfl,kk⟩:=h
  have kk:bW d.F (RK d.K<|Cp _) H _ Q E:=kk;refine⟨_,aR (bg<|mw (dB lG (O 0) a_<|cT _) (HC O2 (hr.aV dc) J m2 k2 b2 .nil aA)<|HC O1 (hr.aV dc) J m1 k1 b1 .nil aA),?_⟩;refine⟨_,J,_,_,J,J,_,J,d4 (λc=>?_) λc=>?_⟩
  ·have e:kindOf o=z8:=aH<|dE c
   rw[e] at kk;exact kk.by<|cP bQ
  ·have e:kindOf o=z_:=ay λz=>c<|dD z
   rw[e] at kk;exact kk.by<|cP bQ
theorem Uz:bE ["scenes","reader","o"] ["scenes","reader"] (bw<|aN 101):=fs
instance:LS (jQ K d c) 2:=⟨@λvs H Q E h=>by
 obtain⟨p,n,s,t,o,q,rfl,_⟩:=h
 rfl⟩
theorem ok_begin(F:bz K "begin" "begin" (aN 101) f fd)(X:HX P w K mg base d):aD P w K mg base (aO P w d.F) 56 f fd ["scenes","reader"]<|jQ K d 0:=by
 obtain⟨ft,fdt,Mt,bt,Ot⟩:=X.tk;obtain⟨f1,bZ,m1,k1,b1,O1⟩:=X.ko;obtain⟨f2,dg,M2,b2,O2⟩:=X.ci;refine F.oc Uz λH Q E hr h=>?_;obtain⟨p,n,s,t,o,q,rfl,hh,ha,hm,_,kk⟩:=h;obtain⟨hd,ho,rfl⟩:=Bw.Kb ha
 refine⟨_,aG (bA 2 Uz.nd<|ee (O 1) X.TR.cl Mt Ot (hr.aV dc) bt .nil aA)
  (aG (TV (lA hr) (O 0) (O 2) (oI M2 (O2<|kindOf o) (hr.aV dc) J X.T.m b2 .nil aA (bu<|cJ O1 (hr.aV dc) J m1 k1 b1 .nil aA (bu<|O 2))) J)
  (aR<|bg (gj<|bu a_))),?_⟩
 refine nX X.N hh hd J λU h1 e1=>?_;refine⟨_,J,o,J,λH2 v _ s2 _ rk=>?_,λ_ _ e=>nomatch e⟩;intro x dx n0 n1 n2;refine⟨H2,x,dx,v,J,bp,(az.new n1).trans (az.new<|by rw[bI<|dy n2];exact n0),n0,rk,λH3 pb ps s3 fb fs sc=>⟨J,?_⟩⟩;have h2:=h1.same s2;have h3:=h2.new s3 n0 fb fs sc;refine⟨_,J,_,J,p.ds,_,J,zK.k (k:=eP o) (s3 _ _ h2.dk)<|vJ hm dc,(by decide),λa ha=>?_⟩;refine kk _ _ _ _ _ _ _ putK_len (h3.same<|az.new ha) e1 ⟨a,J,dy<|dv h3.gl ha,bp⟩
theorem UA:bE ["scenes","reader","scene"] ["scenes","reader"] (bw<|aN 102):=fs
theorem ok_body(F:bz K "body" "body" (aN 102) f fd)(X:HX P w K mg base d):aD P w K mg base (aO P w d.F) 56 f fd ["scenes","reader"]<|jQ K d 1:=by
 obtain⟨ft,fdt,Mt,bt,Ot⟩:=X.tk;obtain⟨fr,fdr,Mr,br,Ow⟩:=X.tr;obtain⟨f1,bZ,M1,b1,O1⟩:=X.ad;refine F.oc UA λH Q E hr h=>?_;obtain⟨p,n,s,t,o,q,rfl,hh,ha,hm,hW,kk⟩:=h;obtain⟨W,hs⟩:=hW.resolve_left dc;obtain⟨l,hd,hl,wq,rfl⟩:=Bw.Yq ha;have ZS:20=(l.length:ae):=by rw[wq];rfl
 rw[ZS] at hd
 refine⟨_,aG (bA 2 UA.nd<|oG (lA hr) (O 0) (ee (O 1) X.TR.cl Mt Ot (hr.aV dc) bt .nil aA) λ_ _=>J)
  (aR<|bg (gj<|bu (bV (O 2) X.T.cl M1 (O1<|kindOf o) (hr.aV dc) b1 .nil aA (bu<|ee (O 1) X.TR.cl Mr Ow (hr.aV dc) br .nil aA)))),?_⟩
 refine xn X.N hh hd hs J J λU h1 e1=>?_;refine xm h1 hs dk J (Eh X.N h1 e1 J λH2 a h2 e2 ha=>?_);exact⟨p.A o,p.B o,p.S o,W,(nats l,()),_,J,(h2.sc o W hs).2.1,⟨_,_,J,⟨Ek hl om ha,by rw[Bw.A7];exact wq⟩,J⟩,C6 X.N h2 hs kk e2⟩
theorem HY:bE ["scenes","reader","scene","i","j"] ["scenes","reader"] (bw<|aN 103):=fs
theorem ok_spring(F:bz K "spring" "spring" (aN 103) f fd)(X:HX P w K mg base d):aD P w K mg base (aO P w d.F) 56 f fd ["scenes","reader"]<|jQ K d 2:=by
 obtain⟨ft,fdt,Mt,bt,Ot⟩:=X.tk;obtain⟨fr,fdr,Mr,br,Ow⟩:=X.tr;obtain⟨f1,bZ,M1,b1,O1⟩:=X.as;refine F.oc HY λH Q E hr h=>?_;obtain⟨p,n,s,t,o,q,rfl,hh,ha,hm,hW,kk⟩:=h;obtain⟨W,hs⟩:=hW.resolve_left dc;obtain⟨i,j,l,hd,hl,h9,rfl⟩:=Bw.Yt ha;have ZU:9=(l.length:ae):=by rw[h9];rfl
 rw[ZU] at hd
 refine⟨_,aG (bA 2 HY.nd<|oG (lA hr) (O 0) (ee (O 1) X.TR.cl Mt Ot (hr.aV dc) bt .nil aA) λ_ _=>J)
  (aG (bA 3 HY.nd<|ee (O 1) X.TR.cl Mt Ot (hr.aV dc) bt .nil aA)
  (aG (bA 4 HY.nd<|ee (O 1) X.TR.cl Mt Ot (hr.aV dc) bt .nil aA)
  (aR<|bg (gj<|bu (bV (O 2) X.T.cl M1 (O1<|kindOf o) (hr.aV dc) b1 .nil aA (bF (O 3) (O 4)<|ee (O 1) X.TR.cl Mr Ow (hr.aV dc) br .nil aA)))))),?_⟩
 refine xn X.N hh hd hs J J λU h1 e1=>?_;refine nX X.N h1 e1 J λH2 h2 e2=>?_;refine nX X.N h2 e2 J λH3 h3 e3=>?_;refine xm h3 hs dk J ⟨_,J,_,J,Eh X.N h3 e3 J λH4 a h4 e4 ha=>?_⟩;exact⟨p.A o,p.B o,p.S o,W,(i,j,nats l,()),_,J,(h4.sc o W hs).2.1,⟨_,_,J,J,_,_,J,J,_,_,J,⟨Ek hl om ha,by rw[Bw.A7];exact h9⟩,J⟩,C6 X.N h4 hs kk e4⟩
theorem UB:bE ["scenes","reader","scene"] ["scenes","reader"] (bw<|aN 104):=fs
theorem ok_walls(F:bz K "walls" "walls" (aN 104) f fd)(X:HX P w K mg base d):aD P w K mg base (aO P w d.F) 56 f fd ["scenes","reader"]<|jQ K d 3:=by
 obtain⟨ft,fdt,Mt,bt,Ot⟩:=X.tk;obtain⟨fr,fdr,Mr,br,Ow⟩:=X.tr;obtain⟨f1,bZ,M1,b1,O1⟩:=X.sw;refine F.oc UB λH Q E hr h=>?_;obtain⟨p,n,s,t,o,q,rfl,hh,ha,hm,hW,kk⟩:=h;obtain⟨W,hs⟩:=hW.resolve_left dc;obtain⟨l,hd,hl,h6,rfl⟩:=Bw.Yu ha;have ZT:6=(l.length:ae):=by rw[h6];rfl
 rw[ZT] at hd
 refine⟨_,aG (bA 2 UB.nd<|oG (lA hr) (O 0) (ee (O 1) X.TR.cl Mt Ot (hr.aV dc) bt .nil aA) λ_ _=>J)
  (aR<|bg (gj<|bu (bV (O 2) X.T.cl M1 (O1<|kindOf o) (hr.aV dc) b1 .nil aA (bu<|ee (O 1) X.TR.cl Mr Ow (hr.aV dc) br .nil aA)))),?_⟩
 refine xn X.N hh hd hs J J λU h1 e1=>?_;refine xm h1 hs dk J (Eh X.N h1 e1 J λH2 a h2 e2 ha=>?_);exact⟨p.A o,p.B o,p.S o,W,(nats l,()),_,J,(h2.sc o W hs).2.1,⟨_,_,J,⟨Ek hl om ha,by rw[Bw.A7];exact h6⟩,J⟩,C6 X.N h2 hs kk e2⟩
theorem MO:bE ["scenes","reader","scene","n"] ["scenes","reader"] (bw<|aN 105):=fs
theorem PV(h:gd o z):RX (kindOf o) H (.int z) z.toNat:=⟨by rw[BR h.1],h.2⟩
theorem ok_stepH(F:bz K "step" "step" (aN 105) f fd)(X:HX P w K mg base d):aD P w K mg base (aO P w d.F) 56 f fd ["scenes","reader"]<|jQ K d 4:=by
 obtain⟨ft,fdt,Mt,bt,Ot⟩:=X.tk;obtain⟨f1,bZ,M1,b1,O1⟩:=X.se;refine F.oc MO λH Q E hr h=>?_;obtain⟨p,n,s,t,o,q,rfl,hh,ha,hm,hW,kk⟩:=h;obtain⟨W,hs⟩:=hW.resolve_left dc;obtain⟨i,z,hd,hz,rfl⟩:=Bw.Yv ha
 refine⟨_,aG (bA 2 MO.nd<|oG (lA hr) (O 0) (ee (O 1) X.TR.cl Mt Ot (hr.aV dc) bt .nil aA) λ_ _=>J)
  (aG (bA 3 MO.nd<|ee (O 1) X.TR.cl Mt Ot (hr.aV dc) bt .nil aA)
  (aR<|bg (gj<|bu (bV (O 2) X.T.cl M1 (O1<|kindOf o) (hr.aV dc) b1 .nil aA (bJ (O 3)<|ee (O 1) X.TR.cl Mt Ot (hr.aV dc) bt .nil aA))))),?_⟩
 refine xn X.N hh hd hs J J λU h1 e1=>?_;refine nX X.N h1 e1 J λH2 h2 e2=>?_;refine xm h2 hs dk J ⟨_,J,Bn X.N h2 e2 J λH4 h4 e4=>?_⟩;exact⟨p.A o,p.B o,p.S o,W,(i,z.toNat,()),_,J,(h4.sc o W hs).2.1,⟨_,_,J,J,_,_,J,PV hz,J⟩,C6 X.N h4 hs kk e4⟩
theorem HZ:bE ["scenes","reader","scene","first","n"] ["scenes","reader"] (bw<|aN 106):=fs
theorem ok_get(F:bz K "get" "get" (aN 106) f fd)(X:HX P w K mg base d):aD P w K mg base (aO P w d.F) 56 f fd ["scenes","reader"]<|jQ K d 5:=by
 obtain⟨ft,fdt,Mt,bt,Ot⟩:=X.tk;obtain⟨f1,bZ,M1,b1,O1⟩:=X.te;refine F.oc HZ λH Q E hr h=>?_;obtain⟨p,n,s,t,o,q,rfl,hh,ha,hm,hW,kk⟩:=h;obtain⟨W,hs⟩:=hW.resolve_left dc;obtain⟨i,j,z,hd,rfl⟩:=Bw.Yw ha
 refine⟨_,aG (bA 2 HZ.nd<|oG (lA hr) (O 0) (ee (O 1) X.TR.cl Mt Ot (hr.aV dc) bt .nil aA) λ_ _=>J)
  (aG (bA 3 HZ.nd<|ee (O 1) X.TR.cl Mt Ot (hr.aV dc) bt .nil aA)
  (aG (bA 4 HZ.nd<|ee (O 1) X.TR.cl Mt Ot (hr.aV dc) bt .nil aA)
  (aR<|bg (bV (O 2) X.T.cl M1 (O1<|kindOf o) (hr.aV dc) b1 .nil aA (bF (O 3) (O 4)<|ee (O 1) X.TR.cl Mt Ot (hr.aV dc) bt .nil aA))))),?_⟩
 refine xn X.N hh hd hs J J λU h1 e1=>?_;refine nX X.N h1 e1 J λH2 h2 e2=>?_;refine nX X.N h2 e2 J λH3 h3 e3=>?_;refine xm h3 hs dk J ⟨_,J,_,J,Bn X.N h3 e3 J λH4 h4 e4=>?_⟩;exact⟨p.A o,p.B o,p.S o,W,(i,j,z,()),_,J,(h4.sc o W hs).2.1,⟨_,_,J,J,_,_,J,J,_,_,J,J,J⟩,Aw X.N h4 hs kk e4⟩
theorem H_:bE ["scenes","reader","scene","first","what"] ["scenes","reader"] (bw<|aN 107):=fs
theorem ok_putH(F:bz K "put" "put" (aN 107) f fd)(X:HX P w K mg base d):aD P w K mg base (aO P w d.F) 56 f fd ["scenes","reader"]<|jQ K d 6:=by
 obtain⟨ft,fdt,Mt,bt,Ot⟩:=X.tk;obtain⟨fr,fdr,Mr,br,Ow⟩:=X.tr;obtain⟨f1,bZ,M1,b1,O1⟩:=X.pu;refine F.oc H_ λH Q E hr h=>?_;obtain⟨p,n,s,t,o,q,rfl,hh,ha,hm,hW,kk⟩:=h;obtain⟨W,hs⟩:=hW.resolve_left dc;obtain⟨i,j,l,hd,hl,Gw,rfl⟩:=Bw.Yx ha
 refine⟨_,aG (bA 2 H_.nd<|oG (lA hr) (O 0) (ee (O 1) X.TR.cl Mt Ot (hr.aV dc) bt .nil aA) λ_ _=>J)
  (aG (bA 3 H_.nd<|ee (O 1) X.TR.cl Mt Ot (hr.aV dc) bt .nil aA)
  (aG (bA 4 H_.nd<|ee (O 1) X.TR.cl Mt Ot (hr.aV dc) bt .nil aA)
  (aR<|bg (gj<|bu (bV (O 2) X.T.cl M1 (O1<|kindOf o) (hr.aV dc) b1 .nil aA (bF (O 3) (O 4)<|ee (O 1) X.TR.cl Mr Ow (hr.aV dc) br .nil aA)))))),?_⟩
 refine xn X.N hh hd hs J J λU h1 e1=>?_;refine nX X.N h1 e1 J λH2 h2 e2=>?_;refine nX X.N h2 e2 J λH3 h3 e3=>?_;refine xm h3 hs dk J ⟨_,J,_,J,Eh X.N h3 e3 J λH4 a h4 e4 ha=>?_⟩;rw[<-Bw.A7 l] at kk;exact⟨p.A o,p.B o,p.S o,W,(i,j,nats l,()),_,J,(h4.sc o W hs).2.1,⟨_,_,J,J,_,_,J,J,_,_,J,Ek hl Gw ha,J⟩,C6 X.N h4 hs kk e4⟩
theorem scH7:bE ["scenes","reader"] ["scenes","reader"] (bw<|aN 108):=fs
theorem scH8:bE ["scenes","reader"] ["scenes","reader"] (bw<|aN 109):=fs
theorem ok_sumsH(F:bz K "sums" "sums" (aN 108) f fd)(X:HX P w K mg base d):aD P w K mg base (aO P w d.F) 56 f fd ["scenes","reader"]<|jQ K d 7:=by
 obtain⟨ft,fdt,Mt,bt,Ot⟩:=X.tk;obtain⟨f1,bZ,M1,b1,O1⟩:=X.su;refine F.oc scH7 λH Q E hr h=>?_;obtain⟨p,n,s,t,o,q,rfl,hh,ha,hm,hW,kk⟩:=h;obtain⟨W,hs⟩:=hW.resolve_left dc;obtain⟨hd,rfl⟩:=Bw.Yy ha;refine⟨_,aR (bg<|ee (oG (lA hr) (O 0) (ee (O 1) X.TR.cl Mt Ot (hr.aV dc) bt .nil aA) λ_ _=>J) X.T.cl M1 (O1<|kindOf o) (hr.aV dc) b1 .nil aA),?_⟩;refine M5 X.N hh hd hs J J λU h1 e1=>?_;obtain⟨dx,vk,vw,vb,vs,g1,_⟩:=(h1.sc o W hs).2.1;exact⟨p.A o,dx,_,J,g1,EA dk,p.A o,p.B o,p.S o,W,(),[],J,(h1.sc o W hs).2.1,J,Aw X.N h1 hs kk e1⟩
theorem ok_boxH(F:bz K "box" "box" (aN 109) f fd)(X:HX P w K mg base d):aD P w K mg base (aO P w d.F) 56 f fd ["scenes","reader"]<|jQ K d 8:=by
 obtain⟨ft,fdt,Mt,bt,Ot⟩:=X.tk;obtain⟨f1,bZ,M1,b1,O1⟩:=X.bo;refine F.oc scH8 λH Q E hr h=>?_;obtain⟨p,n,s,t,o,q,rfl,hh,ha,hm,hW,kk⟩:=h;obtain⟨W,hs⟩:=hW.resolve_left dc;obtain⟨hd,rfl⟩:=Bw.Yz ha;refine⟨_,aR (bg<|ee (oG (lA hr) (O 0) (ee (O 1) X.TR.cl Mt Ot (hr.aV dc) bt .nil aA) λ_ _=>J) X.T.cl M1 (O1<|kindOf o) (hr.aV dc) b1 .nil aA),?_⟩;refine M5 X.N hh hd hs J J λU h1 e1=>?_;obtain⟨dx,vk,vw,vb,vs,g1,_⟩:=(h1.sc o W hs).2.1;exact⟨p.A o,dx,_,J,g1,EA dk,p.A o,p.B o,p.S o,W,(),[],J,(h1.sc o W hs).2.1,J,Aw X.N h1 hs kk e1⟩
theorem MQ:bE ["scenes","reader","scene","limit"] ["scenes","reader"] (bw<|aN 110):=fs
theorem ok_slowH(F:bz K "slow" "slow" (aN 110) f fd)(X:HX P w K mg base d):aD P w K mg base (aO P w d.F) 56 f fd ["scenes","reader"]<|jQ K d 9:=by
 obtain⟨ft,fdt,Mt,bt,Ot⟩:=X.tk;obtain⟨f1,bZ,M1,b1,O1⟩:=X.so;refine F.oc MQ λH Q E hr h=>?_;obtain⟨p,n,s,t,o,q,rfl,hh,ha,hm,hW,kk⟩:=h;obtain⟨W,hs⟩:=hW.resolve_left dc;obtain⟨z,i,hd,hz,rfl⟩:=Bw.YA ha
 refine⟨_,aG (bA 2 MQ.nd<|oG (lA hr) (O 0) (ee (O 1) X.TR.cl Mt Ot (hr.aV dc) bt .nil aA) λ_ _=>J)
  (aG (bA 3 MQ.nd<|ee (O 1) X.TR.cl Mt Ot (hr.aV dc) bt .nil aA)
  (aR<|bg (bV (O 2) X.T.cl M1 (O1<|kindOf o) (hr.aV dc) b1 .nil aA (bJ (O 3)<|ee (O 1) X.TR.cl Mt Ot (hr.aV dc) bt .nil aA)))),?_⟩
 refine xn X.N hh hd hs J J λU h1 e1=>?_;refine nX X.N h1 e1 J λH2 h2 e2=>?_;refine xm h2 hs dk J ⟨_,J,Bn X.N h2 e2 J λH4 h4 e4=>?_⟩;exact⟨p.A o,p.B o,p.S o,W,(z.toNat,i,()),_,J,(h4.sc o W hs).2.1,⟨_,_,J,PV hz,_,_,J,J,J⟩,Aw X.N h4 hs kk e4⟩
theorem HV:bE ["scenes","reader","scene","first","n"] ["scenes","reader"] (bw<|aN 111):=fs
theorem ok_pointsH(F:bz K "points" "points" (aN 111) f fd)(X:HX P w K mg base d):aD P w K mg base (aO P w d.F) 56 f fd ["scenes","reader"]<|jQ K d 10:=by
 obtain⟨ft,fdt,Mt,bt,Ot⟩:=X.tk;obtain⟨fr,fdr,Mr,br,Ow⟩:=X.tr;obtain⟨f1,bZ,M1,b1,O1⟩:=X.po;refine F.oc HV λH Q E hr h=>?_;obtain⟨p,n,s,t,o,q,rfl,hh,ha,hm,hW,kk⟩:=h;obtain⟨W,hs⟩:=hW.resolve_left dc;obtain⟨i,j,l,hd,hl,Dk,rfl⟩:=Bw.Yr ha;have KY:3=(l.length:ae):=by rw[Dk];rfl
 rw[KY] at hd
 refine⟨_,aG (bA 2 HV.nd<|oG (lA hr) (O 0) (ee (O 1) X.TR.cl Mt Ot (hr.aV dc) bt .nil aA) λ_ _=>J)
  (aG (bA 3 HV.nd<|ee (O 1) X.TR.cl Mt Ot (hr.aV dc) bt .nil aA)
  (aG (bA 4 HV.nd<|ee (O 1) X.TR.cl Mt Ot (hr.aV dc) bt .nil aA)
  (aR<|bg (bV (O 2) X.T.cl M1 (O1<|kindOf o) (hr.aV dc) b1 .nil aA (bF (O 3) (O 4)<|ee (O 1) X.TR.cl Mr Ow (hr.aV dc) br .nil aA))))),?_⟩
 refine xn X.N hh hd hs J J λU h1 e1=>?_;refine nX X.N h1 e1 J λH2 h2 e2=>?_;refine nX X.N h2 e2 J λH3 h3 e3=>?_;refine xm h3 hs dk J ⟨_,J,_,J,Eh X.N h3 e3 J λH4 a h4 e4 ha=>?_⟩;exact⟨p.A o,p.B o,p.S o,W,(i,j,nats l,()),_,J,(h4.sc o W hs).2.1,⟨_,_,J,J,_,_,J,J,_,_,J,⟨Ek hl om ha,by rw[Bw.A7];omega⟩,J⟩,Aw X.N h4 hs kk e4⟩
theorem HW:bE ["scenes","reader","o","first","n"] ["scenes","reader"] (bw<|aN 112):=fs
theorem ok_frameH(F:bz K "frame" "frame" (aN 112) f fd)(X:HX P w K mg base d):aD P w K mg base (aO P w d.F) 56 f fd ["scenes","reader"]<|jQ K d 11:=by
 obtain⟨ft,fdt,Mt,bt,Ot⟩:=X.tk;obtain⟨f1,bZ,M1,b1,O1⟩:=X.fr;obtain⟨f2,dg,m2,k2,b2,O2⟩:=X.ot;refine F.oc HW λH Q E hr h=>?_;obtain⟨p,n,s,t,o,q,rfl,hh,ha,hm,hW,kk⟩:=h;obtain⟨W,hs⟩:=hW.resolve_left dc;obtain⟨i,j,hd,rfl⟩:=Bw.Ys ha
 refine⟨_,aG (bA 2 HW.nd<|ee (O 1) X.TR.cl Mt Ot (hr.aV dc) bt .nil aA)
  (aG (bA 3 HW.nd<|ee (O 1) X.TR.cl Mt Ot (hr.aV dc) bt .nil aA)
  (aG (bA 4 HW.nd<|ee (O 1) X.TR.cl Mt Ot (hr.aV dc) bt .nil aA)
  (aR<|bg (bV (oG (lA hr) (O 0) (O 2) λ_ _=>J) X.T.cl M1 (O1<|kindOf o) (hr.aV dc) b1 .nil aA (bF (O 3) (O 4)<|cJ O2 (hr.aV dc) J m2 k2 b2 .nil aA (bu<|O 2)))))),?_⟩
 refine nX X.N hh hd J λU h1 e1=>?_;refine nX X.N h1 e1 J λH2 h2 e2=>?_;refine nX X.N h2 e2 J λH3 h3 e3=>?_;have g:=oZ.k (k:=eP o) h3.dk;rw[(h3.sc o W hs).1] at g;obtain⟨dx,vk,vw,vb,vs,g1,_⟩:=(h3.sc o W hs).2.1;refine⟨_,J,_,J,p.ds,_,J,g,p.A o,dx,_,J,g1,EA dk,_,J,_,J,_,J,o,J,λH4 v _ s4 _ rk=>?_,λ_ _ e=>nomatch e⟩;have h4:=h3.same s4;exact⟨p.A o,p.B o,p.S o,W,(i,j,(),()),_,J,(h4.sc o W hs).2.1,⟨_,_,J,J,_,_,J,J,_,_,J,rk,J⟩,Aw X.N h4 hs kk e3⟩
end
end BW
namespace L2
open PySem PySem.Spec PyProof.Rows
structure Fd(K:aq)(a:ak)(es:jC zL):Prop where
 at_:∃ep,K.lookup a=L ⟨.type "dict",ah,.dict es ep,#[]⟩
 ks:∀e∈es,∃i t,e.key= .int i t/\e.hash=oB i
section
variable{X:Cx}{o i e:Expr}{es:ag Expr}{td ty tf:TE}{t:TA}{pos:gP}{a:ak}{en:jC zL}
def tKGet(a:ak)(en:jC zL)(td ty:TE):TE:=λσ H Q=>td σ H λx U=>ty σ U λy H2=>∃n f,x= .ref a/\y= .int n/\C7 qr en (eP n)=L (.ref f)/\Q (.ref f) H2
theorem pe_kget(kd:Fd X.K a en)(ho:PE X o td)(hi:PE X i ty)(hs:JP i):PE X (.Subscript o i pos)<|tKGet a en td ty:=by
 intro ai s σ H Q I h;refine VN PySem.F.slot_dict_getitem.lookup hs (cj (ho ai s σ H _ I h) λu s1⟨x,U,I1,rx,q1⟩=>cj (hi ai s1 σ U _ I1 q1) λiv s2⟨y,H2,I2,ry,n,f,ex,ey,g,q2⟩=>?_);subst ex ey;obtain rfl:u=j3 a:=rx;obtain⟨ep,lk⟩:=kd.at_
 have dd:s2.heap.MapOf (nQ X.prog X.w) a _:=⟨_,en,ep,I2.iE _ _ lk,⟨J,J,J⟩,J,λe he=>by
  obtain⟨j,tk,e1,e2⟩:=kd.ks e he;refine⟨eP j,?_,e2⟩;rw[e1]
  exact AU ⟨tk,J⟩,λ_=>J⟩
 exact⟨dd.typeIs,wpAny_getItem_of (AU (k:=eP n) ry) dd g ⟨.ref f,H2,I2.lR _,J,q2⟩⟩
def tCallG(G:ak->Sp->Prop)(E:XK)(tf:TE)(t:TA):TE:=λσ H Q=>tf σ H λv U=>∃f sp,v= .ref f/\G f sp/\t σ U λvs H2=>sp (vs++[]) H2 Q E
theorem pe_callG(hf:PE X fe tf)(hG:∀f sp,G f sp-> ∃fd,aD X.prog X.w X.K X.mg X.base CX k f fd ps sp/\jn X.K (.ref f)=ao/\Binds X.K fd ps [])(hr:fg k X.A)(hx:lV CX X E)
 (ha:PA X (e::es) t) (he:dq (e::es) X.env=(aK,da e X.env)::dq es X.env:=by rfl) (fj:(jr pos<|dq es X.env).any (·.1)=aK:=by rfl)
 (hc:da (.Call fe (e::es) [] pos) X.env=(do FQ pos (<-da fe X.env) [] (jr pos<|dq (e::es) X.env) (CH pos<|Dv [] X.env)):=by rfl):PE X (.Call fe (e::es) [] pos)<|tCallG G E tf t:=by
 intro ai s σ H Q I h;refine Call_ (cj (hf ai s σ H _ I h) λu s1⟨v,U,I1,r1,f,sp,ev,g,q1⟩=>?_) hc;subst ev;obtain rfl:u=j3 f:=r1;obtain⟨fd,F,hk,hb⟩:=hG f sp g;refine zY I1.ok.gX.rZ hk (cj (ha pos ai s1 σ U _ I1 q1) λus s2⟨vs,H2,I2,r,q⟩=>⟨I2.iE,?_⟩) he fj;exact Bp F hr hb .nil hx I2 r q
end
end L2
namespace BW
open PySem PySem.Spec PyProof.Rows L2
open Bw (bS fA NS gK gd qW)
section
variable{K:aq}{d:Cs}{p:Pl}{H:Hp}{n:af}{s:NS}
theorem fQ.QR(h:fQ K d p H n s)(gv:ag V):fQ K d {p with gv:=gv} (aC H p.g<|.lst gv) n s:=by
 have i:fJ H (aC H p.g<|.lst gv):=fJ.aC (by rw[h.gl];trivial);refine⟨⟨⟨h.rd.1.choose,i.2 _ _ _ _ h.rd.1.choose_spec⟩,h.rd.2.1.same i.1,h.rd.2.2⟩,bp,by rw[bI<|eF h.dk h.gl (by intro z;cases z)];exact h.dk,λo W hs=>?_,h.ap⟩;obtain⟨a1,a2,a3,a4⟩:=h.sc o W hs;obtain⟨⟨pB,fs,e1⟩,_⟩:=a2.Al;exact⟨a1,a2.CT ⟨i.1,λ_ _ _=>i.2 _ _ _ _,λ_ _ _=>i.2 _ _ _ _,λ_ _ _=>i.2 _ _ _ _⟩ (λ_ z=>by rw[bI<|eF e1 h.gl (by intro z;cases z)];exact z) (λ_ z=>by rw[bI a3];exact z) λ_ z=>by rw[bI a4];exact z,a3,a4⟩
end
section
variable{P:cN}{w:World}{K:aq}{mg:ax->aw aE}{base:b9}{d:Cs}
def spAns(K:aq):Sp:=λvs H Q _=>∃(a:ak)(calls:ag ae),vs=[.ref a]/\s_ K H a (calls.map V.int)/\JW calls=ao/\ ∀H' g,H' g=L (.lst<|(Fu calls).map V.int)->Q (.ref g) H'
theorem Em:bE ["calls","reader","scenes","given","answer"] ["calls"] (bw<|aN 114):=fs
structure tL(K:aq)(d:Cs)(la:ak)(calls:ag ae)(m:af)(σ:L2.St)(H:Hp):Prop where
 ex:∃(x4:aw V)(p:Pl)(n:af)(s:NS)(b vi Bf:ag ae),σ=[L<|.ref la,L<|.ref p.ra,L<|.ref p.ds,L<|.ref p.g,x4]/\p.calls=calls/\fQ K d p H n s/\qW (calls.drop n) m b s vi/\(∀o∈b,∃W,s o=L W)/\p.gv=Bf.map V.int/\Fu calls=Bf++vi/\p.aW.length+m<=300/\Bf.length+28674*m<=8602200
theorem ok_answers{f ca:ak}{fd:cX}{en:jC zL}(F:bz K "answers" "answers" (aN 114) f fd)(X:HX P w K mg base d)(mC:mg "CALLS"=L (.ref ca))(kd:Fd K ca en)
 (hG:∀c:ae,0<=c->c<=11-> ∃fc yr,C7 qr en (eP c)=L (.ref fc)/\aD P w K mg base (aO P w d.F) 56 fc yr ["scenes","reader"] (jQ K d c)/\jn K (.ref fc)=ao/\Binds K yr ["scenes","reader"] []):aD P w K mg base (aO P w d.F) 60 f fd ["calls"]<|spAns K:=by
 obtain⟨ft,fdt,Mt,bt,Ot⟩:=X.tk;obtain⟨fn,fdn,Mn,bn,On⟩:=X.dn;obtain⟨fi,fdi,Mi,bi,Oi⟩:=X.ri;refine F.pQ Em (λvs H Q E h=>?_) λcG A bC s H vs Q E hr h=>?_
 ·obtain⟨a,calls,rfl,_⟩:=h
  rfl
 ·obtain⟨la,calls,rfl,hl,hask,kk⟩:=h
  refine⟨_,aG (bA 1 Em.nd<|oI Mi Oi (hr.aV dc) J X.TR.m bi .nil aA (bu<|O 0))
   (aG (bA 2 Em.nd Ts)
   (aG (bA 3 Em.nd<|gj uH)
   (aG (Ms mr (uL (iT<|ee (O 1) X.TR.cl Mn On (hr.aV dc) bn .nil aA))
     (aG (bA 4 Em.nd<|pe_callG (G:=λf sp=>∃c fd,sp=jQ K d c/\aD P w K mg base (aO P w d.F) 56 f fd ["scenes","reader"] (jQ K d c)/\jn K (.ref f)=ao/\Binds K fd ["scenes","reader"] []) (pe_kget kd (dF J mC (v:=.ref ca) J) (ee (O 1) X.TR.cl Mt Ot (hr.aV dc) bt .nil aA) λ_ _=>J) (λf sp⟨c,fd,e,F,k,b⟩=>⟨fd,e▸F,k,b⟩) (hr.aV dc) aA (bJ (O 2)<|O 1))
     (aG (pU<|uJ vM Ce Cf AZ (O 3) (bu<|jy ox J X.TC.bG pA (bu<|O 4)))
     (aR (pU<|uJ vM O0 O8 mt_extend (O 3) (bu<|O 4))))))
   (aR (bg<|O 3))))),?_⟩
  refine⟨_,J,λra dx n0 n1 n2=>?_⟩;have s0:az H<|aC (aC H dx<|.own ra) ra<|.ins d.R dx []:=(az.new n1).trans (az.new<|by rw[bI<|dy n2];exact n0);refine⟨ra,la,dx,calls,J,bp,hl.same s0.i.1,λU sx rd=>⟨J,λds AG=>⟨eI _,λg hg=>?_⟩⟩⟩;have s1:az U (aC U ds<|.dK []):=az.new AG;have s2:az (aC U ds<|.dK [])<|aC (aC U ds<|.dK []) g<|.lst []:=az.new hg;have hh:fQ K d ⟨ds,ra,la,g,calls,[],[],λ_=>0,λ_=>0,λ_=>0⟩ (aC (aC U ds<|.dK []) g<|.lst []) 0 λ_=>ah:=⟨⟨⟨rd.1.choose,s2 _ _<|s1 _ _ rd.1.choose_spec⟩,rd.2.1.same (s1.trans s2).i.1,rd.2.2⟩,bp,s2 _ _ bp,(λ_ _ e=>nomatch e),λ_ _ _ _ e=>nomatch e⟩;refine⟨λm aS H'=>tL K d la calls m aS H',⟨300,ah,_,0,_,[],_,[],J,J,hh,by rw[Ov];exact qW.start hask,(λ_ h=>nomatch h),J,J,by show 0+300<=300;decide,by show 0+28674*300<=8602200;decide⟩,λm aS H' T=>?_⟩;obtain⟨x4,p,n,s,b,vi,Bf,rfl,rfl,h,hL,hb,hg,ha,hk,ho⟩:=T.ex;obtain⟨pB,hr1⟩:=h.rd.1;refine⟨_,J,p.ra,pB,_,J,hr1,HI dk,p.ra,p.la,p.calls,n,J,h.rd,_,J,?_⟩;by_cases hn:p.calls.length<=n
  ·rw[dD hn]
   refine Dt ⟨_,J,kk H' p.g ?_⟩;rw[W0 hn] at hL;rw[h.gl,hg,ha,hL.done,o8]
  ·rw[gW hn]
   refine pH ?_;obtain⟨c,r,hd⟩:∃c r,p.calls.drop n=c::r:=by
    cases e:p.calls.drop n with
    |nil=>rw[List.drop_eq_nil_iff] at e;omega
    |cons c r=>exact⟨c,r,J⟩
   rw[hd] at hL;obtain⟨m',t,o,q,IX,rfl,ask,hp,hL',et⟩:=hL.turn;have hW:c=0\/ ∃W,s o=L W:=hp.imp (λz=>z)<|hb o;have dG:=Bw.nstep_len ask hW λW hs=>(h.sc o W hs).2.1.ok.2.1;obtain⟨fc,yr,hf,Fc,kc,bc⟩:=hG c (Bw.PL ask).1 (Bw.PL ask).2;refine⟨λaS H'=>tL K d la p.calls m' aS H',λaS H' z=>⟨m',Fl _,z⟩,?_⟩;refine Bn (i:=1) X.N h hd J λU h1 e1=>⟨c,fc,J,J,hf,fc,jQ K d c,J,⟨c,yr,J,Fc,kc,bc⟩,_,J,_,J,?_⟩;refine⟨p,n+1,s,t,o,q,J,h1,by rw[e1];exact ask,om,hW,λH2 v aW A B S n2 hkv Lb pC⟨a,ev,ne,hal⟩=>?_⟩;subst ev;have hgl:Bf.length=p.gv.length:=by rw[hg,hJ]
   have bnd:(8602200:af)<=bH:=by decide
   refine⟨_,J,.inl ⟨J,_,SqL.of Lb.gl⟩,_,J,a,_,J,.inl<|SqL.of hal,p.g,p.gv,_,J,J,Lb.gl,om,?_⟩;have h3:=Lb.QR<|p.gv++[.int (((gK s o q).2.map V.int).length:af)];have Z6:aC H2 p.g (.lst<|p.gv++[.int (((gK s o q).2.map V.int).length:af)]) a=L (.lst<|(gK s o q).2.map V.int):=by rw[bI ne];exact hal
   refine⟨_,J,.inl ⟨J,_,SqL.of h3.gl⟩,_,J,p.g,a,_,_,J,J,h3.gl,Z6,by rw[iL,hJ];show p.gv.length+1+_<=_;omega,?_⟩;have h4:=h3.QR<|p.gv++[.int (((gK s o q).2.map V.int).length:af)]++(gK s o q).2.map V.int;refine⟨_,{p with gv:=p.gv++[.int (((gK s o q).2.map V.int).length:af)]++(gK s o q).2.map V.int,aW:=aW,A:=A,B:=B,S:=S},n2,_,o::b,IX,Bf++(((gK s o q).2.length:ae)::(gK s o q).2),J,J,h4,by rw[pC];exact hL',Bw.nstep_has ask hW hb,?_,?_,?_,?_⟩
   ·show p.gv++[V.int _]++_=_
    rw[hg,B2,kr,hJ,JA];rfl
   ·rw[ha,et,JA]
    rfl
   ·show aW.length+m'<=300
    omega
   ·rw[iL,xJ]
    omega
end
end BW
namespace BW
open PySem PySem.Spec PyProof.Rows L2
open PySem.W (nsIn findIn isFn codeIn keepIn fnOf plainGet hasDictIn plainOver makesIn excIn)
section
variable(K:aq)
def E6(x:ax)(st:dr):Prop:=∃(f:ak)(oc:aE)(od:aw ak)(kV dR pm:aE)(an:aw ak)(cd ct:aE)(sl:jC<|aw aE),gS K d9 x=L (L<|.ref f)/\K.lookup f=L ⟨oc,od,.func<|oz x x (ku st) (ju st) (bw st) .none kV dR pm an cd ct,sl⟩/\FW K cd x=ao/\jn K (.ref f)=ao
def MethAt(C:ak)(x q:ax)(st:dr):Prop:=∃(f:ak)(oc:aE)(od:aw ak)(kV dR pm:aE)(an:aw ak)(cd ct:aE)(sl:jC<|aw aE),vN K (.ref C) x=L (L<|.ref f)/\isFn K (.ref f)=ao/\K.lookup f=L ⟨oc,od,.func<|oz x q (ku st) (ju st) (bw st) .none kV dR pm an cd ct,sl⟩/\FW K cd q=ao/\jn K (.ref f)=ao
structure ki(x:ax)(C:ak)(fs:ag ax):Prop where
 ns:gS K d9 x=L (L<|.ref C)
 pg:plainGet K C Str.empty=ao
 hd:hasDictIn K C=ao
 po:plainOver K C=ao
 sa:vN K (.ref C) "__setattr__"=L (L<|.builtin "object.__setattr__")
 ma:makesIn K C=ao
 kp:jn K (.ref C)=ao
 no:fs.map (vN K<|.ref C)=fs.map λ_=>L ah
def TupAt(x:ax)(i j:ae):Prop:=∃(a:ak)(od:aw ak)(t u:Tok)(n:af)(sl:jC<|aw aE),gS K d9 x=L (L<|.ref a)/\K.lookup a=L ⟨.type "tuple",od,.seq #[.int i t,.int j u] n,sl⟩
def oh(x:ax)(i:ae):Prop:=∃t,gS K d9 x=L (L<|.int i t)
def BP:ag (ax×af)->Prop
 |[]=>i9
 |(x,i)::r=>E6 K x (aN i)/\BP r
def qT(C:ak)(c:af):ag (ax×ax×af)->Prop
 |[]=>i9
 |(x,q,j)::r=>MethAt K C x q (rX (aN c) j)/\qT C c r
end
section
variable{K:aq}{h:b9}{mg:ax->aw aE}{x q:ax}{st:dr}{C f:ak}{fs ps:ag ax}{fd:cX}{P:cN}{w:World}{base:b9}{M:ak}{l m:af}{sp:aB->Sp}
theorem dA{kV dR pm:aE}(a:gS K d9 x=L (L<|.ref f))(l:K.lookup f=L ⟨oc,od,.func<|oz x x (ku st) (ju st) (bw st) .none kV dR pm an cd ct,sl⟩)(c:FW K cd x=ao)(k:jn K (.ref f)=ao):E6 K x st:=⟨_,_,_,_,_,_,_,_,_,_,a,l,c,k⟩
theorem mA{kV dR pm:aE}(a:vN K (.ref C) x=L (L<|.ref f))(i:isFn K (.ref f)=ao)(l:K.lookup f=L ⟨oc,od,.func<|oz x q (ku st) (ju st) (bw st) .none kV dR pm an cd ct,sl⟩)(c:FW K cd q=ao)(k:jn K (.ref f)=ao):MethAt K C x q st:=⟨_,_,_,_,_,_,_,_,_,_,a,i,l,c,k⟩
abbrev qU(x q:ax)(st:dr)(ps:ag ax):Prop:=∀kV dR pm an cG ct us,us.length=ps.length->rF (oz x q (ku st) (ju st) (bw st) .none kV dR pm an cG ct) ⟨us,[]⟩=pure (ps.zip us)
theorem bb0{x q:ax}{st:dr}{ps:ag ax}(e:ps.length=0)(h:∀(kV dR pm:aE)(an:aw ak)(cG ct:aE),rF (oz x q (ku st) (ju st) (bw st) .none kV dR pm an cG ct) ⟨[],[]⟩=pure (ps.zip [])):qU x q st ps:=λa b c d f g us hl=>match us,hl.trans e with|[],_=>h a b c d f g
theorem bb1{x q:ax}{st:dr}{ps:ag ax}(e:ps.length=1)(h:∀(kV dR pm:aE)(an:aw ak)(cG ct:aE)(u0:aE),rF (oz x q (ku st) (ju st) (bw st) .none kV dR pm an cG ct) ⟨[u0],[]⟩=pure (ps.zip [u0])):qU x q st ps:=λa b c d f g us hl=>match us,hl.trans e with|[u0],_=>h a b c d f g u0
theorem bb2{x q:ax}{st:dr}{ps:ag ax}(e:ps.length=2)(h:∀(kV dR pm:aE)(an:aw ak)(cG ct:aE)(u0 u1:aE),rF (oz x q (ku st) (ju st) (bw st) .none kV dR pm an cG ct) ⟨[u0,u1],[]⟩=pure (ps.zip [u0,u1])):qU x q st ps:=λa b c d f g us hl=>match us,hl.trans e with|[u0,u1],_=>h a b c d f g u0 u1
theorem bb3{x q:ax}{st:dr}{ps:ag ax}(e:ps.length=3)(h:∀(kV dR pm:aE)(an:aw ak)(cG ct:aE)(u0 u1 u2:aE),rF (oz x q (ku st) (ju st) (bw st) .none kV dR pm an cG ct) ⟨[u0,u1,u2],[]⟩=pure (ps.zip [u0,u1,u2])):qU x q st ps:=λa b c d f g us hl=>match us,hl.trans e with|[u0,u1,u2],_=>h a b c d f g u0 u1 u2
theorem bb4{x q:ax}{st:dr}{ps:ag ax}(e:ps.length=4)(h:∀(kV dR pm:aE)(an:aw ak)(cG ct:aE)(u0 u1 u2 u3:aE),rF (oz x q (ku st) (ju st) (bw st) .none kV dR pm an cG ct) ⟨[u0,u1,u2,u3],[]⟩=pure (ps.zip [u0,u1,u2,u3])):qU x q st ps:=λa b c d f g us hl=>match us,hl.trans e with|[u0,u1,u2,u3],_=>h a b c d f g u0 u1 u2 u3
theorem bb5{x q:ax}{st:dr}{ps:ag ax}(e:ps.length=5)(h:∀(kV dR pm:aE)(an:aw ak)(cG ct:aE)(u0 u1 u2 u3 u4:aE),rF (oz x q (ku st) (ju st) (bw st) .none kV dR pm an cG ct) ⟨[u0,u1,u2,u3,u4],[]⟩=pure (ps.zip [u0,u1,u2,u3,u4])):qU x q st ps:=λa b c d f g us hl=>match us,hl.trans e with|[u0,u1,u2,u3,u4],_=>h a b c d f g u0 u1 u2 u3 u4
theorem bb6{x q:ax}{st:dr}{ps:ag ax}(e:ps.length=6)(h:∀(kV dR pm:aE)(an:aw ak)(cG ct:aE)(u0 u1 u2 u3 u4 u5:aE),rF (oz x q (ku st) (ju st) (bw st) .none kV dR pm an cG ct) ⟨[u0,u1,u2,u3,u4,u5],[]⟩=pure (ps.zip [u0,u1,u2,u3,u4,u5])):qU x q st ps:=λa b c d f g us hl=>match us,hl.trans e with|[u0,u1,u2,u3,u4,u5],_=>h a b c d f g u0 u1 u2 u3 u4 u5
theorem bb7{x q:ax}{st:dr}{ps:ag ax}(e:ps.length=7)(h:∀(kV dR pm:aE)(an:aw ak)(cG ct:aE)(u0 u1 u2 u3 u4 u5 u6:aE),rF (oz x q (ku st) (ju st) (bw st) .none kV dR pm an cG ct) ⟨[u0,u1,u2,u3,u4,u5,u6],[]⟩=pure (ps.zip [u0,u1,u2,u3,u4,u5,u6])):qU x q st ps:=λa b c d f g us hl=>match us,hl.trans e with|[u0,u1,u2,u3,u4,u5,u6],_=>h a b c d f g u0 u1 u2 u3 u4 u5 u6
theorem E6.gf(X:K.In h)(G:h.Ns d9 mg)(D:E6 K x st)(b:qU x x st ps:=by first|exact bb3 J λ_ _ _ _ _ _ _ _ _=>J|exact bb2 J λ_ _ _ _ _ _ _ _=>J|exact bb1 J λ_ _ _ _ _ _ _=>J|exact bb4 J λ_ _ _ _ _ _ _ _ _ _=>J|exact bb0 J λ_ _ _ _ _ _=>J|exact bb5 J λ_ _ _ _ _ _ _ _ _ _ _=>J|exact bb6 J λ_ _ _ _ _ _ _ _ _ _ _ _=>J|exact bb7 J λ_ _ _ _ _ _ _ _ _ _ _ _ _=>J):∃f fd,Gf K mg x st f fd ps:=by
 obtain⟨f,oc,od,kV,dR,pm,an,cd,ct,sl,a,l,c,k⟩:=D;have F:=KN l c k;exact⟨f,_,F,tD X G a,F.vY b⟩
theorem MethAt.gm(D:MethAt K C x q st)(b:qU x q st ps:=by first|exact bb3 J λ_ _ _ _ _ _ _ _ _=>J|exact bb2 J λ_ _ _ _ _ _ _ _=>J|exact bb1 J λ_ _ _ _ _ _ _=>J|exact bb4 J λ_ _ _ _ _ _ _ _ _ _=>J|exact bb0 J λ_ _ _ _ _ _=>J|exact bb5 J λ_ _ _ _ _ _ _ _ _ _ _=>J|exact bb6 J λ_ _ _ _ _ _ _ _ _ _ _ _=>J|exact bb7 J λ_ _ _ _ _ _ _ _ _ _ _ _ _=>J):∃f fd,Gm K C x q st f fd ps:=by
 obtain⟨f,oc,od,kV,dR,pm,an,cd,ct,sl,a,i,l,c,k⟩:=D;have F:=KN l c k;exact⟨f,_,F,⟨a,i,k⟩,F.vY b⟩
theorem ki.cl(c:ki K x C fs):jV K C:=⟨c.pg,c.hd,c.po,c.sa⟩
theorem ki.na(c:ki K x C fs):∀f∈fs,iq K C f:=λf hf=>List.map_inj_left.mp c.no f hf
theorem ki.tx(X:K.In h)(G:h.Ns d9 mg)(c:ki K x C fs):Tx K mg C x fs:=⟨c.cl,c.na,tD X G c.ns⟩
theorem ki.pI(c:ki K x C fs)(g:Gm K C "__init__" q st f fd ps):Mk K C f:=⟨c.ma,g.aJ.at_,g.aJ.fn,c.kp⟩
theorem TupAt.tu(X:K.In h)(G:h.Ns d9 mg)(c:TupAt K x i j):∃a,mg x=L (.ref a)/\ ∀H,cD K H a [.int i,.int j]:=by
 obtain⟨a,od,t,u,n,sl,e,l⟩:=c;exact⟨a,tD X G e,λH=>.inr ⟨_,#[.int i t,.int j u],n,l,J,J,(by show 2<=bH;decide),.cons ⟨t,J⟩<|.cons ⟨u,J⟩ .nil⟩⟩
theorem oh.gi(X:K.In h)(G:h.Ns d9 mg)(c:oh K x i):Gi mg x i:=by
 obtain⟨t,e⟩:=c;exact⟨t,tD X G e⟩
theorem Gf.a(G:Gf K mg x st f fd ps)(h:m<=l)(i7:∀k,aD P w K mg base (aO P w M) m f fd ps<|sp k):cU P w K mg base M l x ps sp:=⟨f,fd,G.m,G.F.kp,G.b,λk=>(i7 k).aV h⟩
theorem Gm.a(G:Gm K C x q st f fd ps)(h:m<=4)(i7:∀k,aD P w K mg base (aO P w M) m f fd ps<|sp k):pd P w K mg base M C x ps sp:=⟨f,fd,G.aJ,G.b,λk=>(i7 k).aV h⟩
end
abbrev Zd:ag<|ax×af:=[("has_minus",6),("opposite",7),("without_sign",8),("is_below",9),("joined_zero",10),("exact_product",11),("whole_root",12),("make_doubles",14),("make_singles",15),("added",17),("taken_off",18),("each_times",19),("scaled",20),("divided",21),("along",22),("against",23),("dot",24),("crossed",25),("plain_difference",26),("mended_difference",27),("cross",28),("moment",29),("complex_product",33),("mirror_product",34)]
abbrev Ze:ag<|ax×af:=[("turn_product",35),("turn_square",36),("made_one_long",37),("turned",38),("turned_back",39),("with_number",45),("how_fast",46),("how_it_turns",47),("point_place",48),("least",50),("greatest",51),("box_of",52),("slow_ones",53),("find_spans",58),("stretch",59),("find_push",60),("find_pushes",61),("do_push",63),("move",64),("keep_between",65),("one_step",66),("all_twenties",67),("several_steps",68),("with_number_added",70)]
abbrev Zf:ag<|ax×af:=[("with_product_added",71),("folded",72),("side_by_side",73),("sum_of_threes",74),("spin_about_zero",75),("whole_momentum",76),("whole_spin",77),("energy_of_ways",78),("energy_of_turning",79),("energy_of_springs",80),("ten_sums",81),("any_below_zero",93),("is_usable_turn",94),("is_number_to_put",95),("kind_of",99),("other_kind_than",100),("begin",101),("body",102),("spring",103),("walls",104),("step",105),("get",106),("put",107),("sums",108)]
abbrev Zg:ag<|ax×af:=[("box",109),("slow",110),("points",111),("frame",112),("answers",114)]
abbrev msK:ag<|ax×ax×af:=[("__init__","Kind.__init__",0),("from_bits","Kind.from_bits",1),("to_bits","Kind.to_bits",2),("nearest_bits","Kind.nearest_bits",3),("rounded","Kind.rounded",4),("plus","Kind.plus",5),("minus","Kind.minus",6),("times","Kind.times",7),("over","Kind.over",8),("root","Kind.root",9),("fused","Kind.fused",10),("fused_less","Kind.fused_less",11),("less_fused","Kind.less_fused",12),("fused_opposite","Kind.fused_opposite",13)]
abbrev msB:ag<|ax×ax×af:=[("__init__","Body.__init__",0),("twenty","Body.twenty",1)]
abbrev msMo:ag<|ax×ax×af:=[("__init__","Motion.__init__",0)]
abbrev msPt:ag<|ax×ax×af:=[("__init__","Point.__init__",0)]
abbrev msSp:ag<|ax×ax×af:=[("__init__","Spring.__init__",0)]
abbrev msSn:ag<|ax×ax×af:=[("__init__","Span.__init__",0)]
abbrev msPu:ag<|ax×ax×af:=[("__init__","Push.__init__",0)]
abbrev msS:ag<|ax×ax×af:=[("__init__","Scene.__init__",0),("read_numbers","Scene.read_numbers",1),("all_bits","Scene.all_bits",2),("has_body","Scene.has_body",3),("has_bodies","Scene.has_bodies",4),("add_body","Scene.add_body",5),("add_spring","Scene.add_spring",6),("set_walls","Scene.set_walls",7),("step","Scene.step",8),("tell","Scene.tell",9),("put","Scene.put",10),("sums","Scene.sums",11),("box","Scene.box",12),("slow","Scene.slow",13),("points","Scene.points",14),("frame","Scene.frame",15)]
abbrev msR:ag<|ax×ax×af:=[("__init__","Reader.__init__",0),("is_done","Reader.is_done",1),("take","Reader.take",2),("take_row","Reader.take_row",3)]
structure J1(K:aq)(cF cK cB cS cC cR CM CP CN CU:ak):Prop where
 d0:BP K Zd
 d1:BP K Ze
 d2:BP K Zf
 d3:BP K Zg
 fn:gS K d9 "Failed"=L (L<|.ref cF)
 fe:excIn K cF [.type "Exception",.type "BaseException",.type "object"] "Exception.__new__"=ao
 tK:ki K "Kind" cK ["digits","least","greatest","sign_bit","lanes"]
 tB:ki K "Body" cB YG
 tMo:ki K "Motion" CM wI
 tPt:ki K "Point" CP zd
 tSp:ki K "Spring" cS oN
 tSn:ki K "Span" CN ur
 tPu:ki K "Push" CU zG
 tS:ki K "Scene" cC ou
 tR:ki K "Reader" cR Bk
 mK:qT K cK 13 msK
 mB:qT K cB 42 msB
 mMo:qT K CM 43 msMo
 mPt:qT K CP 44 msPt
 mSp:qT K cS 55 msSp
 mSn:qT K CN 56 msSn
 mPu:qT K CU 57 msPu
 mS:qT K cC 96 msS
 mR:qT K cR 98 msR
 pz:TupAt K "PLUS_ZERO" 0 0
 mz:TupAt K "MINUS_ZERO" 0 1
 hf:TupAt K "HALF" 1 (-1)
 on:TupAt K "ONE" 1 0
 qu:TupAt K "QUARTER" 1 (-2)
 gs:TupAt K "GREATEST_SQUARE" 1 64
 fo:TupAt K "FOUR" 1 2
 cBN:oh K "BODY_NUMBERS" 20
 cNR:oh K "NO_ROOM" (-1)
 cNB:oh K "NO_BODY" (-1)
 cOR:oh K "OUT_OF_RANGE" (-2)
 cBd:oh K "BAD_NUMBER" (-3)
 cSF:oh K "SOMETHING_FAILS" (-5)
 cMB:oh K "MOST_BODIES" 4096
 cMS:oh K "MOST_SPRINGS" 8192
 cMT:oh K "MOST_STEPS" 1000000
 cMo4:oh K "MOST_TOLD" 4096
 bl:(["abs","max","tuple","list","len","range","zip","enumerate","any"]:ag ax).map (gS K d9)=(["abs","max","tuple","list","len","range","zip","enumerate","any"]:ag ax).map λ_=>L ah
 ca:∃(a:ak)(en:jC zL),gS K d9 "CALLS"=L (L<|.ref a)/\Fd K a en/\ ∀p∈([("begin",0),("body",1),("spring",2),("walls",3),("step",4),("get",5),("put",6),("sums",7),("box",8),("slow",9),("points",10),("frame",11)]:ag<|ax×ae),∃f,gS K d9 p.1=L (L<|.ref f)/\C7 qr en (eP p.2)=L (.ref f)
end BW
namespace BW
open PySem PySem.Spec PyProof.Rows L2
open Bw (e_ dC)
theorem Gm.s{K:aq}{st:dr}(G:Gm K d.C x q st f fd ps)(i7:∀k,aD P w K mg base (aO P w d.F) l f fd ps<|sp k):kX P w K mg base d l x ps sp:=⟨f,fd,G.aJ,G.b,i7⟩
theorem Gm.r{K:aq}{st:dr}(G:Gm K d.R x q st f fd ps)(i7:aD P w K mg base (aO P w d.F) l f fd ps sp):FD P w K mg base d l x ps sp:=⟨f,fd,G.aJ,G.b,i7⟩
theorem Gf.h{K:aq}{st:dr}(G:Gf K mg x st f fd ps)(i7:aD P w K mg base (aO P w d.F) l f fd ps sp):Js P w K mg base d l x ps sp:=⟨f,fd,G.m,G.F.kp,G.b,i7⟩
section
variable{P:cN}{w:World}{K:aq}{h base:b9}{mg:ax->aw aE}{d:Cs}{CM CP CN CU:ak}
theorem PF(X:K.In h)(G:h.Ns d9 mg)(N:ph d)(GZ:CP≠CN)(R:J1 K d.F d.K d.B d.S d.C d.R CM CP CN CU):HX P w K mg base d:=by
 obtain⟨x6,x7,x8,x9,x10,x11,x12,x14,x15,x17,x18,x19,x20,x21,x22,x23,x24,x25,x26,x27,x28,x29,x33,x34,_⟩:=R.d0;obtain⟨x35,x36,x37,x38,x39,x45,x46,x47,x48,x50,x51,x52,x53,x58,x59,x60,x61,x63,x64,x65,x66,x67,x68,x70,_⟩:=R.d1;obtain⟨x71,x72,x73,x74,x75,x76,x77,x78,x79,x80,x81,x93,x94,x95,x99,x100,x101,x102,x103,x104,x105,x106,x107,x108,_⟩:=R.d2;obtain⟨Wq,x110,x111,x112,x114,_⟩:=R.d3;obtain⟨f6,e6,g6⟩:=x6.gf X G (ps:=["x"]);obtain⟨f7,e7,g7⟩:=x7.gf X G (ps:=["x"]);obtain⟨f8,e8,g8⟩:=x8.gf X G (ps:=["x"]);obtain⟨f9,e9,g9⟩:=x9.gf X G (ps:=["x","y"]);obtain⟨Qt,e10,g10⟩:=x10.gf X G (ps:=["x","y"]);obtain⟨Qu,e11,g11⟩:=x11.gf X G (ps:=["x","y"]);obtain⟨f12,e12,g12⟩:=x12.gf X G (ps:=["n"]);obtain⟨Zv,e14,g14⟩:=x14.gf X G (ps:=[]);obtain⟨Zw,e15,g15⟩:=x15.gf X G (ps:=[]);obtain⟨f17,e17,g17⟩:=x17.gf X G (ps:=["kind","a","b"]);obtain⟨f18,e18,g18⟩:=x18.gf X G (ps:=["kind","a","b"]);obtain⟨f19,e19,g19⟩:=x19.gf X G (ps:=["kind","a","b"]);obtain⟨f20,e20,g20⟩:=x20.gf X G (ps:=["kind","c","d"]);obtain⟨f21,e21,g21⟩:=x21.gf X G (ps:=["kind","d","c"]);obtain⟨f22,e22,g22⟩:=x22.gf X G (ps:=["kind","p","c","d"]);obtain⟨f23,e23,g23⟩:=x23.gf X G (ps:=["kind","p","c","d"]);obtain⟨f24,e24,g24⟩:=x24.gf X G (ps:=["kind","a","b"]);obtain⟨f25,e25,g25⟩:=x25.gf X G (ps:=["kind","difference","a","b"]);obtain⟨f26,e26,g26⟩:=x26.gf X G (ps:=["kind","p","q","r","s"]);obtain⟨f27,e27,g27⟩:=x27.gf X G (ps:=["kind","p","q","r","s"]);obtain⟨f28,e28,g28⟩:=x28.gf X G (ps:=["kind","a","b"]);obtain⟨f29,e29,g29⟩:=x29.gf X G (ps:=["kind","a","b"]);obtain⟨f33,e33,g33⟩:=x33.gf X G (ps:=["kind","p","q"]);obtain⟨f34,e34,g34⟩:=x34.gf X G (ps:=["kind","p","q"]);obtain⟨f35,e35,g35⟩:=x35.gf X G (ps:=["kind","s","t"]);obtain⟨f36,e36,g36⟩:=x36.gf X G (ps:=["kind","t"]);obtain⟨f37,e37,g37⟩:=x37.gf X G (ps:=["kind","t"]);obtain⟨f38,e38,g38⟩:=x38.gf X G (ps:=["kind","t","r"]);obtain⟨f39,e39,g39⟩:=x39.gf X G (ps:=["kind","t","r"]);obtain⟨f45,e45,g45⟩:=x45.gf X G (ps:=["body","what","x"]);obtain⟨f46,e46,g46⟩:=x46.gf X G (ps:=["kind","body"]);obtain⟨f47,e47,g47⟩:=x47.gf X G (ps:=["kind","body"]);obtain⟨f48,e48,g48⟩:=x48.gf X G (ps:=["kind","body","r"]);obtain⟨f50,e50,g50⟩:=x50.gf X G (ps:=["numbers"]);obtain⟨f51,e51,g51⟩:=x51.gf X G (ps:=["numbers"]);obtain⟨f52,e52,g52⟩:=x52.gf X G (ps:=["bodies"]);obtain⟨f53,e53,g53⟩:=x53.gf X G (ps:=["kind","bodies","limit"]);obtain⟨f58,e58,g58⟩:=x58.gf X G (ps:=["kind","bodies","springs"]);obtain⟨f59,e59,g59⟩:=x59.gf X G (ps:=["kind","spring","span"]);obtain⟨f60,e60,g60⟩:=x60.gf X G (ps:=["kind","spring","span"]);obtain⟨f61,e61,g61⟩:=x61.gf X G (ps:=["kind","bodies","springs"]);obtain⟨f63,e63,g63⟩:=x63.gf X G (ps:=["kind","push","first","second","dt"]);obtain⟨f64,e64,g64⟩:=x64.gf X G (ps:=["kind","body","dt"]);obtain⟨f65,e65,g65⟩:=x65.gf X G (ps:=["body","walls"]);obtain⟨f66,e66,g66⟩:=x66.gf X G (ps:=["kind","bodies","springs","walls","dt"]);obtain⟨f67,e67,g67⟩:=x67.gf X G (ps:=["bodies"]);obtain⟨f68,e68,g68⟩:=x68.gf X G (ps:=["kind","bodies","springs","walls","n","dt"]);obtain⟨Zx,e70,g70⟩:=x70.gf X G (ps:=["kind","s","x"]);obtain⟨Zy,e71,g71⟩:=x71.gf X G (ps:=["kind","s","pair"]);obtain⟨f72,e72,g72⟩:=x72.gf X G (ps:=["kind","lanes"]);obtain⟨f73,e73,g73⟩:=x73.gf X G (ps:=["kind","parts","take_in"]);obtain⟨f74,e74,g74⟩:=x74.gf X G (ps:=["kind","threes"]);obtain⟨f75,e75,g75⟩:=x75.gf X G (ps:=["kind","body"]);obtain⟨f76,e76,g76⟩:=x76.gf X G (ps:=["kind","bodies"]);obtain⟨f77,e77,g77⟩:=x77.gf X G (ps:=["kind","bodies"]);obtain⟨f78,e78,g78⟩:=x78.gf X G (ps:=["kind","bodies"]);obtain⟨f79,e79,g79⟩:=x79.gf X G (ps:=["kind","bodies"]);obtain⟨f80,e80,g80⟩:=x80.gf X G (ps:=["kind","bodies","springs"]);obtain⟨f81,e81,g81⟩:=x81.gf X G (ps:=["kind","bodies","springs"]);obtain⟨f93,e93,g93⟩:=x93.gf X G (ps:=["numbers"]);obtain⟨f94,e94,g94⟩:=x94.gf X G (ps:=["kind","t"]);obtain⟨f95,e95,g95⟩:=x95.gf X G (ps:=["what"]);obtain⟨f99,e99,g99⟩:=x99.gf X G (ps:=["o"]);obtain⟨f100,e100,g100⟩:=x100.gf X G (ps:=["o"]);obtain⟨yK0,yK1,yK2,yK3,yK4,yK5,yK6,yK7,yK8,yK9,yK10,yK11,yK12,yK13,_⟩:=R.mK;obtain⟨hK0,kK0,mK0⟩:=yK0.gm (ps:=["self","digits","least","greatest","sign_bit","lanes"]);obtain⟨hK1,kK1,mK1⟩:=yK1.gm (ps:=["self","bits"]);obtain⟨hK2,kK2,mK2⟩:=yK2.gm (ps:=["self","x"]);obtain⟨hK3,kK3,mK3⟩:=yK3.gm (ps:=["self","x"]);obtain⟨hK4,kK4,mK4⟩:=yK4.gm (ps:=["self","m","e"]);obtain⟨hK5,kK5,mK5⟩:=yK5.gm (ps:=["self","x","y"]);obtain⟨hK6,kK6,mK6⟩:=yK6.gm (ps:=["self","x","y"]);obtain⟨hK7,kK7,mK7⟩:=yK7.gm (ps:=["self","x","y"]);obtain⟨hK8,kK8,mK8⟩:=yK8.gm (ps:=["self","x","y"]);obtain⟨hK9,kK9,mK9⟩:=yK9.gm (ps:=["self","x"]);obtain⟨hK10,kK10,mK10⟩:=yK10.gm (ps:=["self","x","y","z"]);obtain⟨hK11,kK11,mK11⟩:=yK11.gm (ps:=["self","x","y","z"]);obtain⟨hK12,kK12,mK12⟩:=yK12.gm (ps:=["self","x","y","z"]);obtain⟨hK13,kK13,mK13⟩:=yK13.gm (ps:=["self","x","y","z"]);obtain⟨yB0,yB1,_⟩:=R.mB;obtain⟨K1,kB0,mB0⟩:=yB0.gm (ps:=["self","numbers"]);obtain⟨K2,kB1,mB1⟩:=yB1.gm (ps:=["self"]);obtain⟨yMo0,_⟩:=R.mMo;obtain⟨ZZ,kMo0,mMo0⟩:=yMo0.gm (ps:=["self","kind","body"]);obtain⟨yPt0,_⟩:=R.mPt;obtain⟨Z0,kPt0,mPt0⟩:=yPt0.gm (ps:=["self","kind","motion","r"]);obtain⟨ySp0,_⟩:=R.mSp;obtain⟨Z3,kSp0,mSp0⟩:=ySp0.gm (ps:=["self","first","second","numbers"]);obtain⟨ySn0,_⟩:=R.mSn;obtain⟨Z2,kSn0,mSn0⟩:=ySn0.gm (ps:=["self","kind","spring","first_motion","second_motion"]);obtain⟨yPu0,_⟩:=R.mPu;obtain⟨Z1,kPu0,mPu0⟩:=yPu0.gm (ps:=["self","first_arm","second_arm","force"]);obtain⟨yS0,yS1,yS2,yS3,yS4,yS5,yS6,yS7,yS8,yS9,yS10,yS11,yS12,yS13,yS14,yS15,_⟩:=R.mS;obtain⟨hS0,kS0,mS0⟩:=yS0.gm (ps:=["self","kind"]);obtain⟨QV,kS1,mS1⟩:=yS1.gm (ps:=["self","row"]);obtain⟨hS2,kS2,mS2⟩:=yS2.gm (ps:=["self","numbers"]);obtain⟨hS3,kS3,mS3⟩:=yS3.gm (ps:=["self","i"]);obtain⟨hS4,kS4,mS4⟩:=yS4.gm (ps:=["self","first","n"]);obtain⟨hS5,kS5,mS5⟩:=yS5.gm (ps:=["self","row"]);obtain⟨hS6,kS6,mS6⟩:=yS6.gm (ps:=["self","i","j","row"]);obtain⟨hS7,kS7,mS7⟩:=yS7.gm (ps:=["self","row"]);obtain⟨hS8,kS8,mS8⟩:=yS8.gm (ps:=["self","n","bits"]);obtain⟨hS9,kS9,mS9⟩:=yS9.gm (ps:=["self","first","n","what"]);obtain⟨hS10,kS10,mS10⟩:=yS10.gm (ps:=["self","first","what","row"]);obtain⟨hS11,kS11,mS11⟩:=yS11.gm (ps:=["self"]);obtain⟨hS12,kS12,mS12⟩:=yS12.gm (ps:=["self"]);obtain⟨hS13,kS13,mS13⟩:=yS13.gm (ps:=["self","bits","most"]);obtain⟨hS14,kS14,mS14⟩:=yS14.gm (ps:=["self","first","n","row"]);obtain⟨hS15,kS15,mS15⟩:=yS15.gm (ps:=["self","first","n","other"]);obtain⟨yR0,yR1,yR2,yR3,_⟩:=R.mR;obtain⟨hR0,kR0,mR0⟩:=yR0.gm (ps:=["self","calls"]);obtain⟨hR1,kR1,mR1⟩:=yR1.gm (ps:=["self"]);obtain⟨hR2,kR2,mR2⟩:=yR2.gm (ps:=["self"]);obtain⟨hR3,kR3,mR3⟩:=yR3.gm (ps:=["self"]);have nn:=λf hf=>PySem.W.mg_none_of X G<|List.map_inj_left.mp R.bl f hf;have TC:jq mg:=⟨nn _ dk,nn _ dk,nn _ dk,nn _ dk,nn _ dk,nn _ dk,nn _ dk⟩;have na:=R.tK.na;have TK:i' K mg d.F d.K:=⟨⟨R.fe⟩,tD X G R.fn,R.tK.cl,na _ dk,na _ dk,na _ dk,na _ dk,na _ dk,tD X G R.tK.ns,R.pz.tu X G,R.mz.tu X G,nn _ dk,nn _ dk⟩;have nb:=R.tB.na;have TB:iM K mg d.B:=⟨R.tB.cl,nb _ dk,nb _ dk,nb _ dk,nb _ dk,nb _ dk,nb _ dk,nb _ dk⟩;have TM:=R.tMo.tx X G;have TP:=R.tPt.tx X G;have TS:=R.tSp.tx X G;have TN:=R.tSn.tx X G;have TU:=R.tPu.tx X G;have T:=R.tS.tx X G;have TR:=R.tR.tx X G;have mB:=tD X G R.tB.ns;have hH:=R.hf.tu X G;have vD:GN K mg d.F d.K:=⟨TK,⟨_,_,g6⟩,⟨_,_,g7⟩,⟨_,_,g10⟩,⟨_,_,g11⟩,⟨_,_,mK4⟩,_,_,mK5⟩;have i6:KM P w K mg base d.F d.K:=⟨TK,mK5.a dc λk=>ok_plusN mK5.F TK g6 mK4 k,mK6.a dc λk=>ok_minus mK6.F vD k,mK7.a dc λk=>ok_times mK7.F vD k,mK8.a dc λk=>ok_over mK8.F vD k,mK9.a dc λk=>ok_root mK9.F vD g12 k,mK10.a dc λk=>ok_fused mK10.F vD k,mK11.a dc λk=>ok_fusedLess mK11.F vD k,mK12.a dc λk=>ok_lessFused mK12.F vD k,mK13.a dc λk=>ok_fusedOpp mK13.F vD k⟩;have V:VM P w K mg base d.F d.K:=⟨i6,g17.a dc λk=>ok_added g17.F i6 k,g18.a dc λk=>ok_taken_off g18.F i6 k,g19.a dc λk=>ok_each_times g19.F i6 k,g20.a dc λk=>ok_scaled g20.F i6 k,g21.a dc λk=>ok_divided g21.F i6 k,g22.a dc λk=>ok_along g22.F i6 k,g23.a dc λk=>ok_against g23.F i6 k,g24.a dc λk=>ok_dot g24.F i6 k,g28.a dc λk=>ok_cross g28.F i6 g25 g26 k,g29.a dc λk=>ok_moment g29.F i6 g25 g27 k⟩;have XT:J8 K mg:=⟨R.qu.tu X G,R.gs.tu X G⟩;have PJ:cU P w K mg base d.F 10 "made_one_long" ["kind","t"] λk=>Iw K d.F d.K k<|yc k:=g37.a dc λk=>ok_mol g37.F i6 XT g36 g9 k;have B:BM P w K mg base d.F d.K d.B:=⟨V,TB,g38.a dc λk=>Mf g38.F V k,g46.a dc λk=>ok_hf g46.F V TB k,g47.a dc λk=>ok_ht g47.F V TB g38 g39 g7 k,g35.a dc λk=>ok_tp g35.F i6 g33 g34 k,PJ⟩;have OB:∀k,aD P w K mg base (aO P w d.F) 10 K1 kB0 ["self","numbers"]<|EH K d.F d.B k:=λk=>ok_binit mB0.F TC TB k;have rg:∀k,aD P w K mg base (aO P w d.F) 10 K2 kB1 ["self"]<|u_ K d.F d.B k:=λk=>ok_twenty mB1.F TB k;have OM:∀k,aD P w K mg base (aO P w d.F) 12 ZZ kMo0 ["self","kind","body"]<|Nz K d.F d.K d.B CM k:=λk=>ok_minit mMo0.F B TM k;have OP:∀k,aD P w K mg base (aO P w d.F) 12 Z0 kPt0 ["self","kind","motion","r"]<|NG K d.F d.K CM CP k:=λk=>ok_pinit mPt0.F B TP TM k;have ON:∀k,aD P w K mg base (aO P w d.F) 16 Z2 kSn0 ["self","kind","spring","first_motion","second_motion"]<|NC K d.F d.K d.S CM CN CP k:=λk=>ok_ninit mSn0.F B TN TS TP GZ (R.tPt.pI mPt0) OP mPt0.b k;have OU:∀k,aD P w K mg base (aO P w d.F) 12 Z1 kPu0 ["self","first_arm","second_arm","force"]<|NN K d.F CU k:=λk=>ok_uinit mPu0.F TU k;have OS:∀k,aD P w K mg base (aO P w d.F) 12 Z3 kSp0 ["self","first","second","numbers"]<|NI K d.F d.S k:=λk=>ok_sinit mSp0.F TC TS k;have Py:cU P w K mg base d.F 20 "find_spans" ["kind","bodies","springs"] λk=>Iz K d.F d.K d.B d.S CN CP k:=g58.a dc λk=>ok_findSpans g58.F TS TN TM (R.tMo.pI mMo0) OM mMo0.b (R.tSn.pI mSn0) ON mSn0.b k;have Yc:cU P w K mg base d.F 20 "stretch" ["kind","spring","span"] λk=>NK K d.F d.K d.S CN CP k:=g59.a dc λk=>Th g59.F B TS TN k;have X9:cU P w K mg base d.F 24 "find_push" ["kind","spring","span"] λk=>Nt K d.F d.K d.S CN CP CU k:=g60.a dc λk=>ok_findPush g60.F B TS TN TP TU g59 (R.tPu.pI mPu0) OU mPu0.b k;have X':cU P w K mg base d.F 30 "find_pushes" ["kind","bodies","springs"] λk=>Nu K d.F d.K d.B d.S CU k:=g61.a dc λk=>ok_findPushes g61.F TC Py X9 k;have X_:cU P w K mg base d.F 34 "one_step" ["kind","bodies","springs","walls","dt"] λk=>NF K d.F d.K d.B d.S k:=g66.a dc λk=>ok_oneStep g66.F TC B TS mB (R.tB.pI mB0) OB mB0.b mB1.aJ rg mB1.b X' (g63.a dc λk=>ok_doPush g63.F B TU k) (g64.a dc λk=>ok_move g64.F B hH (R.on.tu X G) k) (g65.a dc λk=>ok_keep g65.F TC TB g9 g8 g7 g6 k) k;have Yb:cU P w K mg base d.F 38 "several_steps" ["kind","bodies","springs","walls","n","dt"] λk=>IE K d.F d.K d.B d.S k:=g68.a dc λk=>ok_several g68.F TC X_ (g67.a dc λk=>ok_allTw g67.F TB mB1.aJ rg mB1.b k) k;have Ya:cU P w K mg base d.F 18 "side_by_side" ["kind","parts","take_in"] λk=>zB K d.F d.K Zx k (RC K k)<|eU k:=g73.a dc λk=>Tg g73.F TC i6 g72 k du.i _ (ok_wn g70.F i6 k) g70.F.kp g70.b;have Ka:cU P w K mg base d.F 18 "side_by_side" ["kind","parts","take_in"] λk=>zB K d.F d.K Zy k (jo K k)<|e_ k:=g73.a dc λk=>Tg g73.F TC i6 g72 k DH.i _ (ok_wp g71.F i6 k) g71.F.kp g71.b;have a3:cU P w K mg base d.F 20 "sum_of_threes" ["kind","threes"] λk=>IF K d.F d.K k:=g74.a dc λk=>ok_sumThrees g74.F TC g70 Ya k;have YD:cU P w K mg base d.F 34 "ten_sums" ["kind","bodies","springs"] λk=>IG K d.F d.K d.B d.S k:=g81.a dc λk=>ok_tenSums g81.F i6 (g78.a dc λk=>ok_enW g78.F B hH g71 Ka k) (g79.a dc λk=>ok_enT g79.F B hH g71 Ka k) (g80.a dc λk=>ok_enS g80.F TC B TS hH g71 Py Yc Ka k) (g76.a dc λk=>ok_wholeMo g76.F TB a3 k) (g77.a dc λk=>ok_wholeSp g77.F a3 (g75.a dc λk=>ok_spinZero g75.F B k) k) k;have Ye:cU P w K mg base d.F 20 "box_of" ["bodies"] λk=>Nr K d.F d.B k:=g52.a dc λk=>ok_box g52.F TC TB (g50.a dc λk=>ok_least g50.F g9 k) (g51.a dc λk=>ok_greatest g51.F g9 k) k;have Yj:cU P w K mg base d.F 12 "point_place" ["kind","body","r"] λk=>ID K d.F d.K d.B k:=g48.a dc λk=>ok_pointPlace g48.F B (g38.a dc λk=>ok_tuS g38.F V (g28.a dc λk=>ok_crossS g28.F i6 g25 g26 k) (g22.a dc λk=>ok_alongS g22.F i6 k) k) k;have qh:SX P w K mg base d:={TC:=TC,TK:=TK,T:=T,TB:=TB,mB:=mB,B:=⟨_,_,R.tB.pI mB0,mB0.b,OB⟩,tw:=⟨_,_,mB1.aJ,mB1.b,rg⟩,mS:=TS.m,S:=⟨_,_,R.tSp.pI mSp0,mSp0.b,OS⟩,rn:=mS1.s λk=>ok_readNumbers mS1.F TK T mK1 k,ab:=mS2.s λk=>ok_allBits mS2.F TK T mK2 k,hb:=mS3.s λk=>ok_hasBody mS3.F TC T k,yB:=mS4.s λk=>ok_hasBodies mS4.F TC T k,fb:=mK1.a dc λk=>(Td mK1.F TK k).gr,nb:=λk=>mK3.a dc λj=>ok_nearest mK3.F TK g6 mK4 mK2 k j,PN:=⟨_,_,g9⟩,any:=g93.a dc λk=>ok_anyBelow g93.F TC TK g9 k,us:=g94.a dc λk=>ok_usable g94.F TK XT (R.fo.tu X G) g9 (g36.a dc λk=>Tn g36.F i6 k) k,R_:=PJ,ip:=g95.a dc λ_=>ok_isPut g95.F<|R.cBN.gi X G,ss:=Yb,V1:=YD,bx:=Ye,sl:=g53.a dc λk=>ok_slow g53.F TC B g9 k,pp:=Yj,wi:=g45.a dc λk=>ok_with g45.F TC TB mB (R.tB.pI mB0) OB mB0.b mB1.aJ rg mB1.b k,cNR:=R.cNR.gi X G,cNB:=R.cNB.gi X G,cOR:=R.cOR.gi X G,cBN:=R.cBd.gi X G,cSF:=R.cSF.gi X G,cMB:=R.cMB.gi X G,cMS:=R.cMS.gi X G,cMT:=R.cMT.gi X G,P5:=R.cMo4.gi X G,cB:=R.cBN.gi X G,Ss:=N.kc,Sr:=N.bc,Su:=N.sc};have OD:aD P w K mg base (aO P w d.F) 3 Zv e14 []<|xr d.F d.K z8:=(ok_mkD g14.F TK (R.tK.pI mK0) mK0.F mK0.b).gr;have OZ:aD P w K mg base (aO P w d.F) 3 Zw e15 []<|xr d.F d.K z_:=(ok_mkS g15.F TK (R.tK.pI mK0) mK0.F mK0.b).gr;exact{TC:=TC,TK:=TK,T:=T,TR:=TR,N:=N,ri:=⟨_,_,R.tR.pI mR0,mR0.b,ok_rinit mR0.F TR⟩,dn:=mR1.r<|ok_done mR1.F TC TR,tk:=mR2.r<|Ti mR2.F TR,tr:=mR3.r<|ok_takeRow mR3.F TR mR2,ci:=⟨_,_,R.tS.pI mS0,mS0.b,λk=>ok_cinit mS0.F T k⟩,ko:=g99.h<|ok_kindOf g99.F g14.m g14.F.kp g14.b OD g15.m g15.F.kp g15.b OZ,ot:=g100.h<|ok_otherKind g100.F g14.m g14.F.kp g14.b OD g15.m g15.F.kp g15.b OZ,ad:=mS5.s λk=>ok_addBody mS5.F qh k,as:=mS6.s λk=>ok_addSpring mS6.F qh k,sw:=mS7.s λk=>ok_setWalls mS7.F qh k,se:=mS8.s λk=>ok_step mS8.F qh k,te:=mS9.s λk=>ok_tell mS9.F qh k,pu:=mS10.s λk=>ok_put mS10.F qh k,su:=mS11.s λk=>ok_sumsS mS11.F qh k,bo:=mS12.s λk=>ok_boxS mS12.F qh k,so:=mS13.s λk=>ok_slowS mS13.F qh k,po:=mS14.s λk=>ok_points mS14.F qh k,fr:=mS15.s λk=>ok_frame mS15.F qh k}
theorem Yi{fa:ak}(X:K.In h)(G:h.Ns d9 mg)(K_:mg "answers"=L (.ref fa))(N:ph d)(GZ:CP≠CN)(R:J1 K d.F d.K d.B d.S d.C d.R CM CP CN CU):∃fd:cX,(∀(s:de)(us:ag aE),us.length=(["calls"]:ag ax).length->xD s fd ⟨us,[]⟩ ((["calls"]:ag ax).zip us))/\ ∀base:b9,K.In base->base.Ns d9 mg->aD P w K mg base (aO P w d.F) 60 fa fd ["calls"] (spAns K):=by
 obtain⟨_,_,_,_,_,_,_,_,_,_,_,_,_,_,_,_,x101,x102,x103,x104,x105,x106,x107,x108,_⟩:=R.d2;obtain⟨Wq,x110,x111,x112,x114,_⟩:=R.d3;obtain⟨f101,e101,g101⟩:=x101.gf X G (ps:=["scenes","reader"]);obtain⟨f102,e102,g102⟩:=x102.gf X G (ps:=["scenes","reader"]);obtain⟨f103,e103,g103⟩:=x103.gf X G (ps:=["scenes","reader"]);obtain⟨f104,e104,g104⟩:=x104.gf X G (ps:=["scenes","reader"]);obtain⟨f105,e105,g105⟩:=x105.gf X G (ps:=["scenes","reader"]);obtain⟨f106,e106,g106⟩:=x106.gf X G (ps:=["scenes","reader"]);obtain⟨f107,e107,g107⟩:=x107.gf X G (ps:=["scenes","reader"]);obtain⟨f108,e108,g108⟩:=x108.gf X G (ps:=["scenes","reader"]);obtain⟨f109,e109,g109⟩:=Wq.gf X G (ps:=["scenes","reader"]);obtain⟨f110,e110,g110⟩:=x110.gf X G (ps:=["scenes","reader"]);obtain⟨f111,e111,g111⟩:=x111.gf X G (ps:=["scenes","reader"]);obtain⟨f112,e112,g112⟩:=x112.gf X G (ps:=["scenes","reader"]);obtain⟨f,oc,od,kV,dR,pm,an,cd,ct,sl,a,l,c,k⟩:=x114;have e:=K_.symm.trans<|tD X G a
 cases e
 obtain⟨ca,en,c1,kd,c2⟩:=R.ca;refine⟨_,λs us hu=>match us,hu with|[_],_=>.of_eq J,λbase _ _=>ok_answers (KN (st:=aN 114) l c k) (PF X G N GZ R) (tD X G c1) kd λc h0 tY=>?_⟩;have dZ:∀(x:ax)(c:ae){f:ak}{fd:cX}{st:dr},(x,c)∈(_:ag<|ax×ae)->Gf K mg x st f fd ["scenes","reader"]->aD P w K mg base (aO P w d.F) 56 f fd ["scenes","reader"] (jQ K d c)-> ∃fc yr,C7 qr en (eP c)=L (.ref fc)/\aD P w K mg base (aO P w d.F) 56 fc yr ["scenes","reader"] (jQ K d c)/\jn K (.ref fc)=ao/\Binds K yr ["scenes","reader"] []:=λx c f fd st hm g i7=>by
  obtain⟨f',e1,e2⟩:=c2 _ hm;have e:=g.m.symm.trans<|tD X G e1
  cases e
  exact⟨f,fd,e2,i7,g.F.kp,g.b⟩
 have o5:HX P w K mg base d:=PF X G N GZ R;have cs:c=0\/c=1\/c=2\/c=3\/c=4\/c=5\/c=6\/c=7\/c=8\/c=9\/c=10\/c=11:=by omega
 rcases cs with rfl|rfl|rfl|rfl|rfl|rfl|rfl|rfl|rfl|rfl|rfl|rfl
 ·exact dZ _ _ dk g101<|ok_begin g101.F o5
 ·exact dZ _ _ dk g102<|ok_body g102.F o5
 ·exact dZ _ _ dk g103<|ok_spring g103.F o5
 ·exact dZ _ _ dk g104<|ok_walls g104.F o5
 ·exact dZ _ _ dk g105<|ok_stepH g105.F o5
 ·exact dZ _ _ dk g106<|ok_get g106.F o5
 ·exact dZ _ _ dk g107<|ok_putH g107.F o5
 ·exact dZ _ _ dk g108<|ok_sumsH g108.F o5
 ·exact dZ _ _ dk g109<|ok_boxH g109.F o5
 ·exact dZ _ _ dk g110<|ok_slowH g110.F o5
 ·exact dZ _ _ dk g111<|ok_pointsH g111.F o5
 ·exact dZ _ _ dk g112<|ok_frameH g112.F o5
end
end BW
namespace L2
open PySem PySem.Spec PyProof.Rows
open PySem.W (WData Codec OpenSpec)
def CXe(P:cN)(w:World):og:=λbC H s E e s'=>∃C,aO P w C bC H s E e s'
theorem aD.Y5{K:aq}(F:aD P w K mg base (aO P w C) k f fd ps sp):aD P w K mg base (CXe P w) k f fd ps sp:=⟨F.bG,λA bC s H j4 us vs Q E hr he hb hv hs=>yn (F.run A bC s H j4 us vs Q E hr he hb hv hs) λr s' q=>by
                                                                                                           cases r with
                                                                                                           |error e=>exact⟨C,q⟩
                                                                                                           |ok fl=>cases fl<;>exact q⟩
theorem walk_specW{K:Params->aq}{CX:World->og}{sp:aq->Sp}
 (Lp:r.wellSaid=ao) (Q0:d.params.defaults=[]) (dG:r.args.length=ps.length) (hr:fg k CQ)
 (hY:∀w h,YP w h->(K w.params).In h)
 (F:∀w mg fa h,YP w h->(K w.params).In h->h.Ns d9 mg->mg d.name=L (.ref fa)-> ∃fd,(∀s us,us.length=ps.length->xD s fd ⟨us,[]⟩ (ps.zip us))/\ ∀base,(K w.params).In base->base.Ns d9 mg->aD r.prog w (K w.params) mg base (CX w) k fa fd ps (sp<|K w.params))
 (iD:∀K H xs a,zV H->WH r.args a=ao->Jo r.args r.asked a=ao->o4 K H xs (E5 r.args a)->sp K xs H (λv H'=>Dw K H' v (r.ret.enc<|Jo r.args r.f a)) λ_ _ _=>eW)
 (Dd:∀w H s e s',CX w [] H s (λ_ _ _=>eW) e s'->eW):
 XH q loose XP YP r d [] λf vs=>XU f vs:=walk_spec Lp Q0 dG hr hY F (λw H xs a h1 h2 h3 h4=>iD _ H xs a h1 h2 h3 h4) Dd
end L2
namespace BW
open PySem PySem.Spec PyProof.Rows L2
open PySem.W (nsIn)
section
variable{K:aq}
theorem tA(h:gS K d9 x=L (L<|.ref a))(l:K.lookup a=L ⟨.type "tuple",od,.seq #[.int i t,.int j u] n,sl⟩):TupAt K x i j:=⟨_,_,_,_,_,_,h,l⟩
theorem iA(h:gS K d9 x=L (L<|.int i t)):oh K x i:=⟨_,h⟩
theorem cA(h:gS K d9 "CALLS"=L (L<|.ref a))
 (l:K.lookup a=L ⟨.type "dict",ah,.dict #[⟨oB 0,.int 0 t0,.ref f0⟩,⟨oB 1,.int 1 t1,.ref f1⟩,⟨oB 2,.int 2 t2,.ref f2⟩,⟨oB 3,.int 3 t3,.ref f3⟩,⟨oB 4,.int 4 t4,.ref f4⟩,⟨oB 5,.int 5 t5,.ref f5⟩,⟨oB 6,.int 6 t6,.ref f6⟩,⟨oB 7,.int 7 t7,.ref f7⟩,⟨oB 8,.int 8 t8,.ref f8⟩,⟨oB 9,.int 9 t9,.ref f9⟩,⟨oB 10,.int 10 t10,.ref Qt⟩,⟨oB 11,.int 11 t11,.ref Qu⟩] ep,#[]⟩)
 (h0:gS K d9 "begin"=L (L<|.ref f0)) (h1:gS K d9 "body"=L (L<|.ref f1)) (h2:gS K d9 "spring"=L (L<|.ref f2)) (h3:gS K d9 "walls"=L (L<|.ref f3)) (h4:gS K d9 "step"=L (L<|.ref f4)) (h5:gS K d9 "get"=L (L<|.ref f5)) (h6:gS K d9 "put"=L (L<|.ref f6)) (h7:gS K d9 "sums"=L (L<|.ref f7)) (h8:gS K d9 "box"=L (L<|.ref f8)) (h9:gS K d9 "slow"=L (L<|.ref f9)) (wo:gS K d9 "points"=L (L<|.ref Qt)) (tY:gS K d9 "frame"=L (L<|.ref Qu)):
 ∃(a:ak)(en:jC zL),gS K d9 "CALLS"=L (L<|.ref a)/\Fd K a en/\ ∀p∈([("begin",0),("body",1),("spring",2),("walls",3),("step",4),("get",5),("put",6),("sums",7),("box",8),("slow",9),("points",10),("frame",11)]:ag<|ax×ae),∃f,gS K d9 p.1=L (L<|.ref f)/\C7 qr en (eP p.2)=L (.ref f):=by
 refine⟨a,_,h,⟨⟨ep,l⟩,λe he=>?_⟩,λp hp=>?_⟩
 ·simp[List.mem_toArray,JE,OE,or_false] at he
  rcases he with rfl|rfl|rfl|rfl|rfl|rfl|rfl|rfl|rfl|rfl|rfl|rfl<;>exact⟨_,_,rfl,rfl⟩
 ·simp[JE,OE,or_false] at hp
  rcases hp with rfl|rfl|rfl|rfl|rfl|rfl|rfl|rfl|rfl|rfl|rfl|rfl
  ·exact⟨_,h0,J⟩
  ·exact⟨_,h1,J⟩
  ·exact⟨_,h2,J⟩
  ·exact⟨_,h3,J⟩
  ·exact⟨_,h4,J⟩
  ·exact⟨_,h5,J⟩
  ·exact⟨_,h6,J⟩
  ·exact⟨_,h7,J⟩
  ·exact⟨_,h8,J⟩
  ·exact⟨_,h9,J⟩
  ·exact⟨_,wo,J⟩
  ·exact⟨_,tY,J⟩
end
theorem laf_of{K:aq}(o:zV H)(h:SqL K H a xs):s_ K H a xs:=h.imp (λh=>by
 rcases h with h|h
 ·rcases o a with z|⟨ob,u,z⟩
  ·rw[h] at z;cases z
  ·rw[h] at z;cases z
 ·exact h) λh=>h
theorem all_mk'{K:aq}(X:K.In h)(G:h.Ns d9 mg)(K_:mg "answers"=L (.ref fa))(R:J1 K cF cK cB cS cC cR CM CP CN CU)(ne:[cK,cB,cS,cC,cR,CP,CN].Nodup):∃fd,(∀s us,us.length=(["calls"]:ag ax).length->xD s fd ⟨us,[]⟩ ((["calls"]:ag ax).zip us))/\ ∀base,K.In base->base.Ns d9 mg->aD P w K mg base (CXe P w) 60 fa fd ["calls"] (spAns K):=by
 simp only[List.nodup_cons,JE,OE,or_false,not_or] at ne;obtain⟨fd,h1,h2⟩:=Yi (d:=⟨cF,cK,cB,cS,cC,cR⟩) X G K_ ⟨ne.1.2.2.2.1,ne.2.1.2.2.1,ne.2.2.1.2.1,ne.2.2.2.1.1,ne.1.2.2.1,ne.2.1.2.1,ne.2.2.1.1⟩ ne.2.2.2.2.2.1 R;exact⟨fd,h1,λbase a b=>(h2 base a b).Y5⟩
end BW
end
open PySem PySem.W PyProof.Rows
set_option maxRecDepth 100000 in
set_option maxHeartbeats 0 in
theorem PySem.Challenge.cw_bodieswing_s01_answers_holds : PySem.Challenge.rw_bodieswing_s01_answers.Holds := by
  w_on; k_headS; (case hw => exact ⟨[.list [.int 0, .int 0]], by decide +kernel, by decide +kernel⟩)
  k_fillS
  refine L2.walk_specW (r := PySem.Challenge.rw_bodieswing_s01_answers) (k := 60) (CX := fun w => L2.CXe PySem.Challenge.rw_bodieswing_s01_answers.prog w) (ps := ["calls"]) (sp := BW.spAns) (by decide +kernel) rfl rfl ⟨rfl, by decide, by decide⟩ (fun w h Y => PySem.W.kIn_of Y) ?F ?S (fun _ _ _ _ _ ⟨_, _, _, _, _, _, _, _, _, _, _, z⟩ => z)
  case F =>
    intro w mg fa h Y KX G hmg
    exact BW.all_mk' KX G hmg { d0 := ⟨BW.dA (by k_is) (by k_is) (by k_is) (by k_is), BW.dA (by k_is) (by k_is) (by k_is) (by k_is), BW.dA (by k_is) (by k_is) (by k_is) (by k_is), BW.dA (by k_is) (by k_is) (by k_is) (by k_is), BW.dA (by k_is) (by k_is) (by k_is) (by k_is), BW.dA (by k_is) (by k_is) (by k_is) (by k_is), BW.dA (by k_is) (by k_is) (by k_is) (by k_is), BW.dA (by k_is) (by k_is) (by k_is) (by k_is), BW.dA (by k_is) (by k_is) (by k_is) (by k_is), BW.dA (by k_is) (by k_is) (by k_is) (by k_is), BW.dA (by k_is) (by k_is) (by k_is) (by k_is), BW.dA (by k_is) (by k_is) (by k_is) (by k_is), BW.dA (by k_is) (by k_is) (by k_is) (by k_is), BW.dA (by k_is) (by k_is) (by k_is) (by k_is), BW.dA (by k_is) (by k_is) (by k_is) (by k_is), BW.dA (by k_is) (by k_is) (by k_is) (by k_is), BW.dA (by k_is) (by k_is) (by k_is) (by k_is), BW.dA (by k_is) (by k_is) (by k_is) (by k_is), BW.dA (by k_is) (by k_is) (by k_is) (by k_is), BW.dA (by k_is) (by k_is) (by k_is) (by k_is), BW.dA (by k_is) (by k_is) (by k_is) (by k_is), BW.dA (by k_is) (by k_is) (by k_is) (by k_is), BW.dA (by k_is) (by k_is) (by k_is) (by k_is), BW.dA (by k_is) (by k_is) (by k_is) (by k_is), trivial⟩, d1 := ⟨BW.dA (by k_is) (by k_is) (by k_is) (by k_is), BW.dA (by k_is) (by k_is) (by k_is) (by k_is), BW.dA (by k_is) (by k_is) (by k_is) (by k_is), BW.dA (by k_is) (by k_is) (by k_is) (by k_is), BW.dA (by k_is) (by k_is) (by k_is) (by k_is), BW.dA (by k_is) (by k_is) (by k_is) (by k_is), BW.dA (by k_is) (by k_is) (by k_is) (by k_is), BW.dA (by k_is) (by k_is) (by k_is) (by k_is), BW.dA (by k_is) (by k_is) (by k_is) (by k_is), BW.dA (by k_is) (by k_is) (by k_is) (by k_is), BW.dA (by k_is) (by k_is) (by k_is) (by k_is), BW.dA (by k_is) (by k_is) (by k_is) (by k_is), BW.dA (by k_is) (by k_is) (by k_is) (by k_is), BW.dA (by k_is) (by k_is) (by k_is) (by k_is), BW.dA (by k_is) (by k_is) (by k_is) (by k_is), BW.dA (by k_is) (by k_is) (by k_is) (by k_is), BW.dA (by k_is) (by k_is) (by k_is) (by k_is), BW.dA (by k_is) (by k_is) (by k_is) (by k_is), BW.dA (by k_is) (by k_is) (by k_is) (by k_is), BW.dA (by k_is) (by k_is) (by k_is) (by k_is), BW.dA (by k_is) (by k_is) (by k_is) (by k_is), BW.dA (by k_is) (by k_is) (by k_is) (by k_is), BW.dA (by k_is) (by k_is) (by k_is) (by k_is), BW.dA (by k_is) (by k_is) (by k_is) (by k_is), trivial⟩, d2 := ⟨BW.dA (by k_is) (by k_is) (by k_is) (by k_is), BW.dA (by k_is) (by k_is) (by k_is) (by k_is), BW.dA (by k_is) (by k_is) (by k_is) (by k_is), BW.dA (by k_is) (by k_is) (by k_is) (by k_is), BW.dA (by k_is) (by k_is) (by k_is) (by k_is), BW.dA (by k_is) (by k_is) (by k_is) (by k_is), BW.dA (by k_is) (by k_is) (by k_is) (by k_is), BW.dA (by k_is) (by k_is) (by k_is) (by k_is), BW.dA (by k_is) (by k_is) (by k_is) (by k_is), BW.dA (by k_is) (by k_is) (by k_is) (by k_is), BW.dA (by k_is) (by k_is) (by k_is) (by k_is), BW.dA (by k_is) (by k_is) (by k_is) (by k_is), BW.dA (by k_is) (by k_is) (by k_is) (by k_is), BW.dA (by k_is) (by k_is) (by k_is) (by k_is), BW.dA (by k_is) (by k_is) (by k_is) (by k_is), BW.dA (by k_is) (by k_is) (by k_is) (by k_is), BW.dA (by k_is) (by k_is) (by k_is) (by k_is), BW.dA (by k_is) (by k_is) (by k_is) (by k_is), BW.dA (by k_is) (by k_is) (by k_is) (by k_is), BW.dA (by k_is) (by k_is) (by k_is) (by k_is), BW.dA (by k_is) (by k_is) (by k_is) (by k_is), BW.dA (by k_is) (by k_is) (by k_is) (by k_is), BW.dA (by k_is) (by k_is) (by k_is) (by k_is), BW.dA (by k_is) (by k_is) (by k_is) (by k_is), trivial⟩, d3 := ⟨BW.dA (by k_is) (by k_is) (by k_is) (by k_is), BW.dA (by k_is) (by k_is) (by k_is) (by k_is), BW.dA (by k_is) (by k_is) (by k_is) (by k_is), BW.dA (by k_is) (by k_is) (by k_is) (by k_is), BW.dA (by k_is) (by k_is) (by k_is) (by k_is), trivial⟩, fn := by k_is, fe := by kernel_rfl, tK := ⟨by k_is, by k_is, by k_is, by k_is, by k_is, by k_is, by k_is, by kernel_rfl⟩, tB := ⟨by k_is, by k_is, by k_is, by k_is, by k_is, by k_is, by k_is, by kernel_rfl⟩, tMo := ⟨by k_is, by k_is, by k_is, by k_is, by k_is, by k_is, by k_is, by kernel_rfl⟩, tPt := ⟨by k_is, by k_is, by k_is, by k_is, by k_is, by k_is, by k_is, by kernel_rfl⟩, tSp := ⟨by k_is, by k_is, by k_is, by k_is, by k_is, by k_is, by k_is, by kernel_rfl⟩, tSn := ⟨by k_is, by k_is, by k_is, by k_is, by k_is, by k_is, by k_is, by kernel_rfl⟩, tPu := ⟨by k_is, by k_is, by k_is, by k_is, by k_is, by k_is, by k_is, by kernel_rfl⟩, tS := ⟨by k_is, by k_is, by k_is, by k_is, by k_is, by k_is, by k_is, by kernel_rfl⟩, tR := ⟨by k_is, by k_is, by k_is, by k_is, by k_is, by k_is, by k_is, by kernel_rfl⟩, mK := ⟨BW.mA (by k_is) (by k_is) (by k_is) (by k_is) (by k_is), BW.mA (by k_is) (by k_is) (by k_is) (by k_is) (by k_is), BW.mA (by k_is) (by k_is) (by k_is) (by k_is) (by k_is), BW.mA (by k_is) (by k_is) (by k_is) (by k_is) (by k_is), BW.mA (by k_is) (by k_is) (by k_is) (by k_is) (by k_is), BW.mA (by k_is) (by k_is) (by k_is) (by k_is) (by k_is), BW.mA (by k_is) (by k_is) (by k_is) (by k_is) (by k_is), BW.mA (by k_is) (by k_is) (by k_is) (by k_is) (by k_is), BW.mA (by k_is) (by k_is) (by k_is) (by k_is) (by k_is), BW.mA (by k_is) (by k_is) (by k_is) (by k_is) (by k_is), BW.mA (by k_is) (by k_is) (by k_is) (by k_is) (by k_is), BW.mA (by k_is) (by k_is) (by k_is) (by k_is) (by k_is), BW.mA (by k_is) (by k_is) (by k_is) (by k_is) (by k_is), BW.mA (by k_is) (by k_is) (by k_is) (by k_is) (by k_is), trivial⟩, mB := ⟨BW.mA (by k_is) (by k_is) (by k_is) (by k_is) (by k_is), BW.mA (by k_is) (by k_is) (by k_is) (by k_is) (by k_is), trivial⟩, mMo := ⟨BW.mA (by k_is) (by k_is) (by k_is) (by k_is) (by k_is), trivial⟩, mPt := ⟨BW.mA (by k_is) (by k_is) (by k_is) (by k_is) (by k_is), trivial⟩, mSp := ⟨BW.mA (by k_is) (by k_is) (by k_is) (by k_is) (by k_is), trivial⟩, mSn := ⟨BW.mA (by k_is) (by k_is) (by k_is) (by k_is) (by k_is), trivial⟩, mPu := ⟨BW.mA (by k_is) (by k_is) (by k_is) (by k_is) (by k_is), trivial⟩, mS := ⟨BW.mA (by k_is) (by k_is) (by k_is) (by k_is) (by k_is), BW.mA (by k_is) (by k_is) (by k_is) (by k_is) (by k_is), BW.mA (by k_is) (by k_is) (by k_is) (by k_is) (by k_is), BW.mA (by k_is) (by k_is) (by k_is) (by k_is) (by k_is), BW.mA (by k_is) (by k_is) (by k_is) (by k_is) (by k_is), BW.mA (by k_is) (by k_is) (by k_is) (by k_is) (by k_is), BW.mA (by k_is) (by k_is) (by k_is) (by k_is) (by k_is), BW.mA (by k_is) (by k_is) (by k_is) (by k_is) (by k_is), BW.mA (by k_is) (by k_is) (by k_is) (by k_is) (by k_is), BW.mA (by k_is) (by k_is) (by k_is) (by k_is) (by k_is), BW.mA (by k_is) (by k_is) (by k_is) (by k_is) (by k_is), BW.mA (by k_is) (by k_is) (by k_is) (by k_is) (by k_is), BW.mA (by k_is) (by k_is) (by k_is) (by k_is) (by k_is), BW.mA (by k_is) (by k_is) (by k_is) (by k_is) (by k_is), BW.mA (by k_is) (by k_is) (by k_is) (by k_is) (by k_is), BW.mA (by k_is) (by k_is) (by k_is) (by k_is) (by k_is), trivial⟩, mR := ⟨BW.mA (by k_is) (by k_is) (by k_is) (by k_is) (by k_is), BW.mA (by k_is) (by k_is) (by k_is) (by k_is) (by k_is), BW.mA (by k_is) (by k_is) (by k_is) (by k_is) (by k_is), BW.mA (by k_is) (by k_is) (by k_is) (by k_is) (by k_is), trivial⟩, pz := BW.tA (by k_is) (by k_is), mz := BW.tA (by k_is) (by k_is), hf := BW.tA (by k_is) (by k_is), on := BW.tA (by k_is) (by k_is), qu := BW.tA (by k_is) (by k_is), gs := BW.tA (by k_is) (by k_is), fo := BW.tA (by k_is) (by k_is), cBN := BW.iA (by k_is), cNR := BW.iA (by k_is), cNB := BW.iA (by k_is), cOR := BW.iA (by k_is), cBd := BW.iA (by k_is), cSF := BW.iA (by k_is), cMB := BW.iA (by k_is), cMS := BW.iA (by k_is), cMT := BW.iA (by k_is), cMo4 := BW.iA (by k_is), bl := by kernel_rfl, ca := BW.cA (by k_is) (by k_is) (by k_is) (by k_is) (by k_is) (by k_is) (by k_is) (by k_is) (by k_is) (by k_is) (by k_is) (by k_is) (by k_is) (by k_is) } (by decide)
  case S =>
    intro K H xs a hO hwi hask hx
    cases hx with
    | cons h1 h2 =>
      cases h2
      cases h1 with
      | lst hs ha =>
        have e := L2.ints_dw a.1 _ ha
        subst e
        exact ⟨_, a.1, rfl, BW.laf_of hO hs, hask, fun H' p hp => .lst (L2.SqL.of hp) (L2.dw_ints _)⟩
