import PyProof.Rows.All
import Wide.All
import OpenK.AllK
import Wide.FinOn
import PyProof.EqAt
import PyProof.EqKinds
import PyProof.TupleCall
import KE.BitLaws
import Open.SpecLaws
import KE.OsHead
import KE.OsGo
import PySem.Challenge.RW_bodieswing_s01_answers
set_option Elab.async false
set_option linter.all false
set_option maxRecDepth 100000
set_option maxHeartbeats 2000000
section
open _root_ renaming rfl→J,Int→ae,List→af,Nat→ag,Option→au,if_neg→ay,if_pos→aK,trivial→ck,Bool→df,decide_eq_true→dF,of_decide_eq_true→dG,False→e_,Unit→gF,congrArg→gM,decide_eq_false→hX,True→jb,Array→jv,decide_eq_true_eq→kl,if_true→nT,of_decide_eq_false→vd,if_false→xa,String→yG,true_and→Fn,decide_eq_false_iff_not→Gz,decide_eq_decide→K3,false_or→La
open Option renaming some→L,none→ah,map_some→wt,bind→Ao,map→Km,isSome_map→Yx
open PySem renaming Addr→ak,Str→ax,Value→aH,sizeLine→bI,model→bX,Heap→b9,wpAny→b_,Program→cO,FuncData→c7,Shared→c_,eval→dg,wpAny_bind→dj,Stmt→dq,starEach→dv,mainGlobals→ee,Obj→eR,wpAny_pure→gg,Pos→gW,cellsFrom→iH,backTo→jC,compEnvC→jE,mem_of_lookup→jR,Env→j9,wpAny_mono→lr,Scope→mx,NameKind→m_,binaryOp→nE,compareOp→nI,Around→oj,cLine→oA,hashInt→oG,PyData→pA,boot_len→pO,bindArgs→uA,codeAny→uD,notedBy→xo,pushCells→xK,sysModules→xV,BindsTo→yc,DictEntry→yd,atKey→yI,bindC→yJ,bindL→yK,codeAny_mono→yN,getItem→yU,swapsWith→z7,holding→Bi,sliceBounds→BY,wpAny_field→Ca,wpAny_passesOwn→Cb,wpAny_truthy_bool→Cc,assignEach→Dg,backToKw→Di,bootBuiltins→Dm,callerA→Dq,compPost→Du,findBy→DD,foldedSetIterable→DF,keywordEach→DX,valueAt→Fs,wpAny_Call_Name_kw→Fu,wpAny_newObj_type→Fv,assign→Ga,attributeBase→Gb,callWith→Gk,getMethod→GU,inplaceOp→Hj,isTrue→Hl,noteFrame→HF,pushCells_keeps→Im,standAt→Jp,tupleKind→JD,wpAny_execs_nil→JL,PassesOwn→Kn,leaving→L7,recursionLimit→Nj,subscripted→OJ,wpAny_call→O_,wpAny_holding→Pa,Within→Qi,builtinsNs→Q4,call_meets→Q7,letOwnedTupleGo→S8,seqIndex_neg→VR,seqIndex_of→VS,storeName→WC,tupleKind_room_in1→W5,wpAny_Name→Xk,wpAny_standAt→Xl,call→YQ,codeAny_call_function→ZY,codeAny_compStart_list→ZZ
open Bool renaming true→ao,false→aM,and_eq_true→eX,noConfusion→o7,false_or→tU,false_ne_true→vZ,or_eq_false_iff→Ad,false_eq_true→Ci,eq_iff_iff→Fx,or_eq_true→Fy,not_eq_false'→JQ,and_eq_false_iff→Xt,and_false→Xu,not_true→Xv,or_false→Xw,true_and→Xx,true_or→Xy
open PySem.W renaming Frag→aq,nsIn→g_,keepIn→jx,WData→oy,fnOf→pR,mg_of→ui,findIn→wy,WellAll→wJ,callWith_K→Ar,emptyDict→As,hideAll→Au,instObj→CW,hideAll_get→FZ,codeIn→Gs,lookIn→Ks,of_hideAll→Kt,plainGet→Ku,cellsFrom_some→Qa,hasDictIn→Qb,isFn→Qc,methodCall_KW→Qe,plainGet_of→Qg,takerIn→Qh,WalkOS→YG,callWith_K0→YH,codeRec_of→YI,excIn→YJ,handedIn→YK,hideAll_none→YL,length_le_weightAllW→YM,makesIn→YN,plainOver→YO
open Rb49 renaming Kind→aB,step→cI,negative→dO,P→dR,add→eY,Body→fu,rounded→fE,signBit→fL,mul→iE,plus→iZ,along→ja,finite→jH,below→jT,folded→jX,Spring→ke,cross→lF,half→lN,dot→mr,numbers→nz,power→oP,speed→pB,turned→pC,turning→pE,opposite→qY,World→rY,between→rZ,moment→r8,Q→uk,ma→uo,isSlow→wB,kept→wC,made→wD,ms→wF,root→wG,times→wH,minus→xj,against→yx,div→yy,each→yz,floorRoot→yA,free→yB,norm→yC,unit→yD,worth→Ab,DOUBLE→Aw,Push→Ax,SINGLE→Ay,one→Az,pushedBack→AA,sums→AB,summed→B6,done→C4,otherKind→C5,pushed→C6,sub→C7,turns→C8,bodyOf→Dl,Call→F4,cx→F5,cy→F6,springOf→Jo,tensions→Jz,wallsOf→JE,whirls→JH,nma→Kx,other→Ky,momenta→Mj,Ans→Qm,greatestOf→Qn,leastOf→Qo,nms→Qp,parted→Qq,size→Qr,turnedBack→Qs,withNumber→Xh
open Ne renaming symm→dB
open Nat renaming le_trans→dN,le_refl→dQ,zero_le→eM,lt_of_lt_of_le→gy,pow_add→jw,ne_of_lt→j_,pow_le_pow_right→ka,mul_comm→mn,log2→nk,lt_irrefl→nr,pow_succ→pw,le_log2→qG,mod_eq_of_lt→rO,mod_lt→rP,mul_le_mul→rQ,mul_ne_zero→rR,ne_of_gt→uh,log2_lt→wo,lt_of_le_of_lt→wq,add_zero→Ak,div_add_mod→Al,zero_mul→Am,le_of_eq→CA,le_of_lt→CD,mul_le_mul_right→CG,mul_lt_mul_of_pos_right→CH,mul_mul_mul_comm→CI,two_pow_pos→CJ,div_lt_iff_lt_mul→FL,le_add_right→FN,lt_or_ge→FO,lt_succ_self→FP,mul_assoc→FQ,zero_add→FR,le_div_iff_mul_le→Kc,le_of_succ_le→Kd,le_succ→Ke,log2_two_pow→Kf,lt_succ_of_lt→Kg,mul_add→Kh,add_assoc→PX,add_comm→PY,min_self→PZ,mod_eq_sub_mod→P0,mul_lt_mul''→P1,mul_pos→P2,add_mul_div_left→Yg,add_mul_mod_self_left→Yh,add_sub_cancel_left→Yi,div_div_eq_div_mul→Yj,div_eq_of_lt→Yk,div_le_self→Yl,le_mul_of_pos_left→Ym,le_total→Yn,lt_trans→Yo,min_eq_left→Yp,min_le_right→Yq,mul_le_mul_left→Yr,pow_lt_pow_right→Ys,sub_self→Yt,zero_div→Yu
open PySem.Heap renaming lt_size→ej,get?_push_of_some→iS,get?_push_size→pf,size_push→ph,SameBut→FC,FlyingW→JW,get?_update_other→JX,get?_update_self→XH
open Sum renaming inl→eU,inr→AI
open List renaming size_toArray→gx,mem_cons_of_mem→gD,length_map→ie,mem_cons_self→iB,range→iC,length_append→iT,mem_of_getElem?→j',length_take→kJ,map_cons→kK,take_length→mi,getD→m7,getElem?_map→m8,take_zero→m9,eq_nil_of_length_eq_zero→oo,append_nil→pj,length_set→pk,mem_append_right→ud,length_range→wm,any_cons→yh,getElem?_eq_getElem→yi,length_cons→yj,lookup→yk,filterMap_cons→Ag,getElem?_set_ne→Ah,lookup_cons→Ai,replicate→Aj,getD_eq_getElem?_getD→Cq,getElem?_eq_none→Cr,getElem?_set_self→Ct,length_drop→Cu,map_append→Cv,length_zip→FI,map→FJ,append_assoc→J7,flatMap_cons→J8,length→J9,mem_cons→J',of_mem_zip→J_,all_eq_true→PH,drop_zero→PJ,getElem?_append_right→PK,getElem?_of_mem→PL,getElem?_zip_eq_some→PM,map_map→PN,mem_append_left→PQ,not_mem_nil→PR,take_append_drop→PU,any_map→XZ,drop_drop→X0,drop_eq_nil_of_le→X1,drop_length→X2,ext_getElem→X3,ext_getElem?→X4,filter_cons_of_pos→X5,flatMap_append→X6,foldl_append→X7,getElem?_append_left→X8,getElem?_drop→X9,getElem?_replicate→X',getElem?_take_of_lt→X_,getElem_inj→Ya,length_replicate→Yb,take_sublist→Yc,take_succ→Yd
open False renaming elim→ic
open PyProof.Rows renaming envOfC→jG,boot_tuple→sk,AllBare→tQ,callWith_type1→Kq,boot_abs→KU,Subscript_→Qv,boot_list→Q0,slot_tuple_getitem→YC
open Int renaming mul_assoc→jQ,toNat_natCast→kI,natCast_mul→qF,zero_add→wc,one_mul→Af,toNat_of_nonneg→Ck,mul_one→FE,natAbs_mul→FF,zero_mul→FG,fdiv_eq_ediv_of_nonneg→J1,natAbs_pow→J2,pow_zero→J3,add_comm→Pt,mul_comm→Pu,mul_neg_of_neg_of_pos→Pw,natCast_ediv→Px,pow_add→Py,add_mul_ediv_right→XM,ediv_emod_unique→XN,ediv_eq_zero_of_lt→XO,le_trans→XQ,mul_nonneg→XR,natCast_add→XS,natCast_emod→XU,natCast_nonneg→XW,ne_of_gt→XX
open PySem.Value renaming ref→kg,type→AJ,bool→Dc,none→Dd,int→KG,str→KH,bytes→YY,float→YZ,isInt→Y0,isStrOf→Y1
open PySem.Builtin.Int renaming intBits→kG
open Rb49Neutral renaming whole32→mw,object→r_,step→yE,bits→AD,goes→AE,kindOf→AF,nats→AG,width→AH,natural→Kz,asked1→Qt,long→YT
open Option.some renaming inj→ny
open Rb49.P renaming list→ow
open Decidable renaming byContradiction→rK
open List.cons renaming injEq→wj
open PyRb49 renaming whole→wu,shape→Aq,answers→FY,answers_asked→Kr
open PySem.F renaming plainAttrs_list→wx,slot_list_append→CT,type_list_append→CV,slot_list_extend→P',type_list_extend→P_,args_list_extend_2→XF,entry_list_extend→XG,args_tuple_add_2→YD,entry_tuple_add→YE,slot_tuple_add→YF
open PyFlat renaming call→yn,calls→yo,played→P8,told→P9,rows→YB
open Or renaming inl→CL,inr→FT
open PySem.PyData renaming canLay0→CO,depth→CQ,eqv→FW,eqvAll→FX,canLayAll0→Ko,depthAll→P7
open True renaming intro→C_
open PySem.W.Codec renaming encAll→Fz,app→JU,withinAll→XE
open Prod renaming fst→FV
open Array renaming append_assoc→JP,toList→Pk
open PySem.Builtin.List renaming listTooLong→JR
open ForInStep renaming yield→JV
open Rb49.Kind renaming sign→J4
open PySem.NameKind renaming free→Kb
open PySem.Obj renaming mapSeq→Kl,data_mapFields→Yv,mapFields→Yw
open PySem.SeqAt renaming shaped→KA,EqAt→YV
open PySem.Around renaming under→Pj,frames_deeper→Xq
open PySem.Builtin.Slice renaming sliceAdjust→Pn,slicePlaces→Po
open PyProof.Rows.IsTup renaming new→Pz
open PySem.Paired renaming length→P6,snoc→Yz
open PySem.AutoSeq1 renaming wpAny_loadPart'→Xs
open PySem.Calls renaming Name_function_global→Xz,callWith_builtin→XA,evalArgs_plain→XB,spliced_cons→XC,spliced_nil→XD
open Rb49.Q renaming list→YS
open Sum.inl renaming inj→YW
open PySem.Value.type renaming inj→Y2
open PySem.W.WData renaming weightAll→Y3
set_option hygiene false in
local macro_rules| `(tactic|sleep 1)=> `(tactic|(repeat (first|rw[du,aK J]|rw[du,ay (by decide+kernel)])))
set_option hygiene false in
local macro_rules| `(tactic|sleep 2)=> `(tactic|(repeat (first|rw[putF_nil]|rw[putF_eq]|rw[putF_ne (by decide+kernel)])))
set_option hygiene false in
local macro_rules| `(tactic|sleep 3)=> `(tactic|refine cps fun Zq zq=>?_)
set_option hygiene false in
local macro_rules| `(tactic|sleep 4)=> `(tactic|(refine zq ?_;clear zq Zq))
theorem dk{p:Prop}[Decidable p](h:p:=by decide+kernel):p:=h
theorem dc{p:Prop}[Decidable p](h:p:=by decide):p:=h
theorem om{p:Prop}(h:p:=by omega):p:=h
theorem cps{G:Prop}(h:∀Z:Prop,(G->Z)->Z):G:=h G id
namespace Bw
open Rb49
theorem eZ(n:ag):0<2^n:=CJ n
theorem i6(n:ag):((2^n:ag):ae)=2^n:=by simp
theorem mE(n:ag):(0:ae)<2^n:=by rw[<-i6];exact Int.natCast_pos.mpr<|eZ n
def fQ(m:ae):ag:=if m=0 then 0 else m.natAbs.log2+1
theorem rne_floor(m T h:ae)(hT:T=2*h)(hh:0<h):(m+h-1+(m/T)%2)/T=m/T+(if h<m%T\/(m%T=h/\(m/T)%2=1) then 1 else 0):=by
 have DJ:T≠0:=by omega
 have h1:m+h-1+(m/T)%2=(m%T+h-1+(m/T)%2)+m/T*T:=by
  have:=Int.emod_add_mul_ediv m T;rw[Pu] at this
  lia
 rw[h1,XM _ _ DJ];have r0:=Int.emod_nonneg m DJ;have r1:m%T<T:=Int.emod_lt_of_pos m om
 split
 ·rename_i hc
  have:(m%T+h-1+(m/T)%2)/T=1:=by
   rw[Int.ediv_eq_iff_of_pos om];rcases hc with hc|⟨hc,hd⟩<;>constructor<;>lia
  omega
 ·rename_i hc
  have:(m%T+h-1+(m/T)%2)/T=0:=by
   apply XO
   ·omega
   ·have:=λz=>hc<|.inl z
    by_cases e:m%T=h
    ·have:=λz=>hc (.inr ⟨e,z⟩)
     lia
    ·omega
  omega
def Iv(a s:ag):ag:=a/2^s+(if 2^(s-1)<a%2^s\/(a%2^s=2^(s-1)/\a/2^s%2=1) then 1 else 0)
theorem two_split(hs:0<s):2^s=2*2^(s-1):=by
 obtain⟨t,rfl⟩:∃t,s=t+1:=⟨s-1,(by lia)⟩;rw[pw,Nat.add_sub_cancel,mn]
theorem rne_int(m:ae)(hs:0<s):(m+2^(s-1)-1+(m/2^s)%2)/2^s=(if m<0 then-1 else 1)*(Iv m.natAbs s:ae):=by
 have hp:=eZ<|s-1;have eT:(2:ae)^s=2*2^(s-1):=by
  have:=two_split hs;rw[<-i6,<-i6];lia
 rw[rne_floor m _ _ eT<|mE _];unfold Iv;generalize hTT:2^s=T;generalize hhh:2^(s-1)=h at*;have e1:2^s=(T:ae):=by rw[<-hTT,i6]
 have e2:2^(s-1)=(h:ae):=by rw[<-hhh,i6]
 rw[e1,e2];have DJ:(0:ae)<T:=by lia
 by_cases hm:m<0
 ·rw[aK hm]
  obtain⟨a,rfl⟩:∃a:ag,m= -(a:ae):=⟨m.natAbs,(by lia)⟩;have ea:(-(a:ae)).natAbs=a:=by lia
  rw[ea];have d1:=by
   have:=Al a T;rw[mn] at this
   exact_mod_cast this.symm
  have lt:a%T<T:=rP _<|by lia
  generalize a/T=q at*;generalize a%T=r at*;by_cases hr:r=0
  ·have u:(-(a:ae))/T= -(q:ae)/\(-(a:ae))%T=0:=by
    rw[XN DJ];rw[d1,hr,Int.mul_neg,Pu]
    lia
   rw[u.1,u.2,ay om,ay<|by lia]
   lia
  ·have u:(-(a:ae))/T= -(q:ae)-1/\(-(a:ae))%T=T-r:=by
    rw[XN DJ];rw[d1,Int.mul_sub,Int.mul_neg,Pu (T:ae)]
    lia
   split<;>split<;>omega
 ·rw[ay hm]
  obtain⟨a,rfl⟩:∃a:ag,m=(a:ae):=⟨m.natAbs,(by lia)⟩;have ea:((a:ae)).natAbs=a:=by lia
  rw[ea];have d1:(a:ae)/(T:ae)=((a/T:ag):ae):=by simp
  have d2:(a:ae)%(T:ae)=((a%T:ag):ae):=by simp
  split<;>split<;>lia
end Bw
namespace Bw
open Rb49
def bV(k:aB):Prop:=k=DOUBLE\/k=SINGLE
def aO(k:aB):ae:=k.least+(2^k.expo:ag)-3
def sg(n:df):ae:=if n=ao then-1 else 1
def bg(k:aB)(x:F):ae×ae:=if(whole k x).1=0 then(0,if dO k x=ao then 1 else 0) else(sg (dO k x)*((whole k x).1),(whole k x).2)
theorem xQ(k:aB):k.sign=2^k.frac*2^k.expo:=by unfold J4;rw[jw]
theorem GG(k:aB)(neg:df){f n:ag}(hf:f<2^k.expo)(hn:n<2^k.frac):field k (fL k neg+f*2^k.frac+n)=f/\dO k (fL k neg+f*2^k.frac+n)=neg/\(fL k neg+f*2^k.frac+n)%2^k.frac=n/\fL k neg+f*2^k.frac+n<2*k.sign/\f*2^k.frac+n<k.sign:=by
 have hA:=eZ k.frac;have d9:f*2^k.frac+n<k.sign:=by
  rw[xQ,mn<|2^k.frac];have:(f+1)*2^k.frac<=2^k.expo*2^k.frac:=CG _ hf;rw[Nat.add_mul] at this
  lia
 have e1:fL k neg+f*2^k.frac+n=n+2^k.frac*((if neg=ao then 2^k.expo else 0)+f):=by
  unfold fL;rw[xQ,Kh,mn f]
  split<;>lia
 refine⟨?_,?_,?_,?_,d9⟩
 ·unfold field
  rw[e1,Yg _ _ hA,Yk hn,FR]
  split
  ·rw[Nat.add_mod_left,rO hf]
  ·rw[FR,rO hf]
 ·unfold dO fL
  cases neg
  ·simp only[Ci,xa,FR]
   exact hX<|by lia
  ·simp only[nT]
   exact dF<|by lia
 ·rw[e1,Yh,rO hn]
 ·unfold fL
  split<;>omega
def cV(k:aB)(x:ag):Prop:=x<2*k.sign/\jH k x=ao
theorem Ft(k:aB)(neg:df){n:ag}(hn:n<2^k.frac):whole k (fL k neg+n)=(n,k.least)/\dO k (fL k neg+n)=neg/\fL k neg+n<2*k.sign/\field k (fL k neg+n)=0:=by
 have h:=GG k neg (eZ _) hn;simp[Am,Ak] at h;obtain⟨h1,h2,h3,h4,_⟩:=h;refine⟨?_,h2,h4,h1⟩;unfold whole;rw[aK h1,h3]
theorem Xf(k:aB)(neg:df){f n:ag}(h0:0<f)(hf:f<2^k.expo)(hn:n<2^k.frac):whole k (fL k neg+f*2^k.frac+n)=(n+2^k.frac,k.least+f-1)/\dO k (fL k neg+f*2^k.frac+n)=neg/\fL k neg+f*2^k.frac+n<2*k.sign/\field k (fL k neg+f*2^k.frac+n)=f:=by
 obtain⟨h1,h2,h3,h4,_⟩:=GG k neg hf hn;refine⟨?_,h2,h4,h1⟩;unfold whole;rw[ay<|by lia,h3,h1]
def c8(k:aB)(m e:ae):ae:=if e+((fQ m)-(k.frac+1:ag))<k.least then k.least-e else(fQ m)-(k.frac+1:ag)
def fh(k:aB)(m e:ae):au<|ae×ae:=if 0<c8 k m e then
  let kept:=(m+2^(c8 k m e-1).toNat-1+(m/2^(c8 k m e).toNat)%2)/2^(c8 k m e).toNat
  if kept=0 then L (0,if m<0 then 1 else 0)
  else if k.frac+1<fQ kept then(if aO k<e+(c8 k m e+1) then ah else L (kept/2,e+(c8 k m e+1)))
  else(if aO k<e+c8 k m e then ah else L (kept,e+c8 k m e))
 else(if aO k<e+c8 k m e then ah else L (m*2^(-(c8 k m e)).toNat,e+c8 k m e))
theorem AM(h:m≠0):fQ m=m.natAbs.log2+1:=ay h
theorem AR(h:m≠0):e+c8 k m e=max (e+(nk m.natAbs+1:ag)-(k.frac+1:ag)) k.least:=by
 unfold c8;rw[AM h]
 split<;>lia
theorem sW(h:a≠0):2^a.log2<=a:=Nat.log2_self_le h
theorem log2_lt:a<2^(a.log2+1):=Nat.lt_log2_self
theorem log2_eq(h1:2^n<=a)(h2:a<2^(n+1)):a.log2=n:=by
 have h0:a≠0:=by have:=eZ n;lia
 have a1:=(qG h0).mpr h1;have a2:=(wo h0).mpr h2
 lia
theorem shift_lt(h:a.log2+1<=f+d):a/2^d<2^f:=by
 rw[FL<|eZ d,<-jw];exact gy log2_lt<|ka (by lia) h
theorem VZ(h0:a≠0)(h:f+d<=a.log2):2^f<=a/2^d:=by
 rw[Kc<|eZ d,<-jw];exact dN (ka om h)<|sW h0
def dr(k:aB)(neg:df)(n:ag)(q:ae):au F:=if n<2^k.frac then L (fL k neg+n)
 else if(2^k.expo-1:ag)<=q-k.least+1 then ah
 else L (fL k neg+(q-k.least+1).toNat*2^k.frac+(n-2^k.frac))
theorem Fm(k:aB)(_hq:k.least<=q):((2^k.expo-1:ag)<=q-k.least+1)↔aO k<q:=by
 unfold aO;omega
theorem Gw(k:aB)(neg:df)(hk:2<=2^k.expo-1)(hq:k.least<=q)(hl:n<2^k.frac->q=k.least)(hn:n<2^(k.frac+1)):(dr k neg n q).map (bg k)=(if n=0 then L (0,if neg=ao then 1 else 0) else if aO k<q then ah else L (sg neg*n,q))/\ ∀x,dr k neg n q=L x->cV k x:=by
 unfold dr;by_cases h1:n<2^k.frac
 ·obtain⟨w1,w2,w3,w4⟩:=Ft k neg h1
  have nt:¬aO k<q:=by
   rw[<-Fm k hq,hl h1]
   lia
  rw[aK h1,ay nt];constructor
  ·show L (bg k _)=_
   unfold bg;rw[w1,w2];by_cases h0:n=0
   ·rw[aK h0,aK h0]
   ·rw[ay h0,ay h0,hl h1]
  ·intro x hx
   cases hx
   refine⟨w3,?_⟩;unfold jH;exact bne_iff_ne.mpr<|by lia
 ·have h0:n≠0:=by have:=eZ k.frac;lia
  rw[ay h1,ay h0];by_cases ht:aO k<q
  ·rw[aK ht,aK<|(Fm k hq).mpr ht]
   exact⟨J,λx hx=>nomatch hx⟩
  ·rw[ay ht]
   have ht':¬_:=λz=>ht<|(Fm k hq).mp z;rw[ay ht'];have Bh:n-2^k.frac<2^k.frac:=by rw[pw] at hn;omega
   obtain⟨w1,w2,w3,w4⟩:=Xf k neg (f:=(q-k.least+1).toNat) (by lia) (by lia) Bh;constructor
   ·show L (bg k _)=_
    unfold bg;rw[w1,w2];have e:n-2^k.frac+2^k.frac=n:=by omega
    rw[e,ay h0];have e2:k.least+((q-k.least+1).toNat)-1=q:=by grind
    rw[e2]
   ·intro x hx
    cases hx
    refine⟨w3,?_⟩;unfold jH;exact bne_iff_ne.mpr om
def dz(k:aB)(m:ag)(e:ae):ae:=max (e+(nk m+1:ag)-(k.frac+1:ag)) k.least
def iu(k:aB)(m:ag)(e:ae)(more:df):ag:=if dz k m e<=e then m*2^(e-dz k m e).toNat else
  m/2^(dz k m e-e).toNat+(if 2^((dz k m e-e).toNat-1)<m%2^(dz k m e-e).toNat\/(m%2^(dz k m e-e).toNat=2^((dz k m e-e).toNat-1)/\(more=ao\/m/2^(dz k m e-e).toNat%2=1)) then 1 else 0)
theorem vE(k:aB)(neg:df)(e:ae)(more:df)(h:m≠0):fE k neg m e more=if iu k m e more=2^(k.frac+1) then dr k neg (2^k.frac) (dz k m e+1) else dr k neg (iu k m e more) (dz k m e):=by
 unfold fE;rw[ay h];show(match(if iu k m e more=2^(k.frac+1) then(2^k.frac,dz k m e+1) else(iu k m e more,dz k m e)) with|(n,q)=>dr k neg n q)=_
 split<;>rename_i h1<;>split at h1<;>rename_i h2<;>cases h1
 ·rw[aK h2]
 ·rw[ay h2]
theorem Ec(k:aB)(e:ae)(more:df)(h:m≠0):iu k m e more<=2^(k.frac+1)/\(iu k m e more<2^k.frac->dz k m e=k.least)/\k.least<=dz k m e:=by
 have fw:k.least<=dz k m e:=by unfold dz;omega
 have LO:e+(nk m+1:ag)-(k.frac+1:ag)<=dz k m e:=by unfold dz;omega
 have lO:dz k m e=k.least\/dz k m e=e+(nk m+1:ag)-(k.frac+1:ag):=by unfold dz;lia
 unfold iu;generalize hq:dz k m e=q at*;by_cases hqe:q<=e
 ·rw[aK hqe]
  refine⟨?_,λd9=>?_,fw⟩
  ·have h1:m*2^(e-q).toNat<2^_*2^(e-q).toNat:=CH log2_lt<|eZ _
   rw[<-jw] at h1;have h2:2^(m.log2+1+(e-q).toNat)<=2^(k.frac+1):=ka om om;grind
  ·rcases lO with z|z
   ·exact z
   ·exfalso
    have h1:2^m.log2*2^(e-q).toNat<=m*2^(e-q).toNat:=CG _<|sW h;rw[<-jw] at h1;have h2:2^k.frac<=2^(m.log2+(e-q).toNat):=ka om om;omega
 ·rw[ay hqe]
  have b1:m/2^(q-e).toNat<2^(k.frac+1):=shift_lt om;refine⟨by split<;>grind,λd9=>?_,fw⟩;rcases lO with z|z
  ·exact z
  ·exfalso
   have h2:2^k.frac<=m/2^(q-e).toNat:=VZ h om;omega
theorem EL(k:aB){m:ae}(e:ae)(hk:2<=2^k.expo-1)(hf:1<=k.frac)(hm:m≠0):fh k m e=(fE k (decide (m<0)) m.natAbs e aM).map (bg k)/\ ∀x,fE k (decide (m<0)) m.natAbs e aM=L x->cV k x:=by
 have ha:m.natAbs≠0:=by lia
 obtain⟨n1,n2,n3⟩:=Ec k e aM ha;have hc:e+c8 k m e=dz k m.natAbs e:=AR (k:=k) (e:=e) hm;rw[vE k _ e aM ha];have He:sg (decide (m<0))=if m<0 then-1 else 1:=by unfold sg;by_cases z:m<0<;>simp[z]
 have hz:(if decide (m<0)=ao then(1:ae) else 0)=if m<0 then 1 else 0:=by by_cases z:m<0<;>simp[z]
 have hA:=eZ k.frac;by_cases Bk:0<c8 k m e
 ·have hs:(c8 k m e).toNat=(dz k m.natAbs e-e).toNat:=by lia
  have SF:(c8 k m e-1).toNat=(c8 k m e).toNat-1:=by lia
  have hkept:(m+2^(c8 k m e-1).toNat-1+(m/2^(c8 k m e).toNat)%2)/2^(c8 k m e).toNat=(if m<0 then-1 else 1)*(iu k m.natAbs e aM:ae):=by
   rw[SF,rne_int m<|by grind];have e1:Iv m.natAbs (c8 k m e).toNat=iu k m.natAbs e aM:=by
    have hnle:¬dz k m.natAbs e<=e:=by lia
    unfold iu;rw[ay hnle];unfold Iv;rw[hs];simp only[Ci,La]
   rw[e1]
  unfold fh;rw[aK Bk];simp only[hkept];generalize hN:iu k m.natAbs e aM=N at*;generalize hP:dz k m.natAbs e=p at*;have SK:((if m<0 then-1 else 1)*(N:ae)=0)↔N=0:=by split<;>omega
  have habs:((if m<0 then-1 else 1)*(N:ae)).natAbs=N:=by split<;>omega
  by_cases yV:N=0
  ·rw[aK<|SK.mpr yV,ay (show¬N=2^(k.frac+1) by lia)]
   have:=Gw k (decide (m<0)) (n:=N) (q:=p) hk n3 n2<|by lia
   rw[aK yV,hz] at this;exact⟨this.1.symm,this.2⟩
  ·have gZ:=λz=>yV<|SK.mp z
   rw[ay gZ,AM gZ,habs];by_cases hfull:N=2^(k.frac+1)
   ·rw[aK hfull]
    have ij:N.log2=k.frac+1:=by rw[hfull];exact Kf
    rw[aK om];have:=Gw k (decide (m<0)) (n:=2^k.frac) (q:=p+1) hk (by lia) (λz=>absurd z<|by lia) om;rw[ay om,He] at this;refine⟨?_,this.2⟩;rw[this.1,show e+(c8 k m e+1)=p+1 by lia];have e4:(if m<0 then-1 else 1)*(N:ae)/2=(if m<0 then-1 else 1)*((2^k.frac:ag):ae):=by
     split<;>lia
    rw[e4]
   ·rw[ay hfull]
    have d9:N<2^(k.frac+1):=by lia
    have ij:N.log2<k.frac+1:=(wo yV).mpr d9;rw[ay om];have:=Gw k (decide (m<0)) (n:=N) (q:=p) hk n3 n2 d9;rw[ay yV,He] at this;exact⟨by rw[this.1,hc],this.2⟩
 ·have zc:dz k m.natAbs e<=e:=by lia
  have LN:iu k m.natAbs e aM=m.natAbs*2^(e-dz k m.natAbs e).toNat:=by unfold iu;rw[aK zc]
  have hs:(-(c8 k m e)).toNat=(e-dz k m.natAbs e).toNat:=by lia
  have d9:iu k m.natAbs e aM<2^(k.frac+1):=by
   rw[LN];have h1:m.natAbs*2^(e-dz k m.natAbs e).toNat<2^(m.natAbs.log2+1)*2^(e-dz k m.natAbs e).toNat:=CH log2_lt<|eZ _;rw[<-jw] at h1
   have h2:2^(m.natAbs.log2+1+(e-dz k m.natAbs e).toNat)<=2^(k.frac+1):=ka (by lia) (by
    have LO:e+((nk m.natAbs+1:ag):ae)-((k.frac+1:ag):ae)<=dz k m.natAbs e:=by unfold dz;omega
    omega)
   omega
  have yV:iu k m.natAbs e aM≠0:=by
   rw[LN];exact rR ha (uh<|eZ _)
  rw[ay om];have:=Gw k (decide (m<0)) hk n3 n2 d9;rw[ay yV,He] at this;refine⟨?_,this.2⟩;rw[this.1];unfold fh;rw[ay Bk,hc,LN,hs];have e4:(if m<0 then-1 else 1)*((m.natAbs*2^(e-dz k m.natAbs e).toNat:ag):ae)=m*2^(e-dz k m.natAbs e).toNat:=by
   rw[qF,i6,<-jQ]
   congr 1
   split<;>grind
  rw[e4]
end Bw
namespace Bw
open Rb49
theorem M'(k:aB)(e:ae)(h:m≠0)(hb:b<=1):dz k (2*m+b) (e-1)=dz k m e:=by
 have h1:(2*m+b).log2=m.log2+1:=by
  have a1:=sW h;have a2:=log2_lt (a:=m);apply log2_eq
  ·rw[pw];omega
  ·rw[pw];omega
 unfold dz
 lia
theorem Iw(k:aB)(neg:df)(e:ae)(h:m≠0)(hb:b<=1)(hl:k.frac+1<=m.log2)(c1:s=aM->b=0/\s'=aM)(c2:s=ao->b=1\/s'=ao):fE k neg (2*m+b) (e-1) s'=fE k neg m e s:=by
 have h2:2*m+b≠0:=by lia
 simp only[vE k neg _ s' h2,vE k neg _ s h,M' k e h hb];have hp:e+1<=dz k m e:=by unfold dz;lia
 have hn:iu k (2*m+b) (e-1) s'=iu k m e s:=by
  unfold iu;rw[M' k e h hb];generalize dz k m e=p at*;rw[ay (show¬p<=e-1 by lia),ay (show¬p<=e by omega)];obtain⟨d,hd⟩:∃d:ag,p-e=d+1:=⟨(p-e-1).toNat,om⟩;have e1:(p-(e-1)).toNat=d+2:=by lia
  have e2:(p-e).toNat=d+1:=by lia
  rw[e1,e2];have q1:2^(d+2)=2*2^(d+1):=by rw[pw];lia
  have q2:2^(d+1)=2*2^d:=by rw[pw];lia
  have d1:(2*m+b)/2^(d+2)=m/2^(d+1):=by
   rw[q1,<-Yj]
   congr 1
   lia
  have d2:(2*m+b)%2^(d+2)=2*(m%2^(d+1))+b:=by
   have r1:=Al (2*m+b)<|2^(d+2);have r2:=Al m<|2^(d+1);rw[d1,q1,FQ] at r1;rw[q1]
   lia
  simp only[d1,d2,show d+2-1=d+1 by lia,show d+1-1=d by lia]
  cases s with
  |false=>
   obtain⟨rfl,rfl⟩:=c1 J;simp[Ci,La]
   split<;>split<;>omega
  |true=>
   simp[true_or,and_true];rcases c2 J with rfl|rfl
   ·split<;>split<;>omega
   ·simp[true_or,and_true]
    split<;>split<;>omega
 rw[hn]
theorem rounded_dbl(k:aB)(neg:df)(m:ag)(e:ae):fE k neg (2*m) (e-1) aM=fE k neg m e aM:=by
 by_cases h:m=0
 ·subst h;unfold fE;rw[aK J,aK J]
 have h2:2*m≠0:=by lia
 have LP:=M' k (b:=0) e h<|by lia
 simp only[Ak] at LP;rw[vE k neg _ aM h2,vE k neg _ aM h,LP];have hn:iu k (2*m) (e-1) aM=iu k m e aM:=by
  unfold iu;rw[LP];generalize dz k m e=p at*;by_cases c:p<=e
  ·rw[aK c]
   by_cases c':p<=e-1
   ·rw[aK c',show(e-p).toNat=(e-1-p).toNat+1 by lia,pw,mn 2 m,FQ,mn 2]
   ·rw[ay c',show(e-p).toNat=0 by lia,show(p-_).toNat=1 by grind]
    simp
  ·rw[ay c,ay (show¬p<=e-1 by lia)]
   obtain⟨d,hd⟩:∃d:ag,p-e=d+1:=⟨(p-e-1).toNat,om⟩;have e1:(p-(e-1)).toNat=d+2:=by lia
   have e2:(p-e).toNat=d+1:=by lia
   rw[e1,e2];have q1:2^(d+2)=2*2^(d+1):=by rw[pw];lia
   have q2:2^(d+1)=2*2^d:=by simp only[pw];lia
   have d1:(2*m)/2^(d+2)=m/2^(d+1):=by
    rw[q1,<-Yj]
    congr 1
    lia
   have d2:(2*m)%2^(d+2)=2*(m%2^(d+1)):=by rw[q1,Nat.mul_mod_mul_left]
   simp only[d1,d2,show d+2-1=d+1 by lia,show d+1-1=d by lia];simp[Ci,La]
   split<;>split<;>lia
 rw[hn]
theorem Np(k:aB)(neg:df)(m:ag)(e:ae):∀j:ag,fE k neg (m*2^j) (e-j) aM=fE k neg m e aM
 |0=>by simp
 |j+1=>by
  have:=rounded_dbl k neg (m*2^j)<|e-j;rw[Np k neg m e j] at this;rw[<-this]
  congr 1
  ·rw[pw,<-FQ,mn]
  ·lia
theorem Vi(k:aB)(neg:df)(m:ag)(h:g<=e):fE k neg (m*2^(e-g).toNat) g aM=fE k neg m e aM:=by
 have:=Np k neg m e (e-g).toNat;rw[show e-((e-g).toNat)=g by lia] at this;exact this
theorem pW{a b c:ae}(h1:a<=b)(h2:b<=c):(2:ae)^(c-a).toNat=2^(c-b).toNat*2^(b-a).toNat:=by
 rw[<-Py]
 congr 1
 lia
def EqAt(a u b v g:ae):Prop:=a*2^(u-g).toNat=b*2^(v-g).toNat
theorem EqAt.down(h:EqAt a u b v g)(hg:g'<=g)(hu:g<=u)(hv:g<=v):EqAt a u b v g':=by
 unfold EqAt at*;simp only[pW hg hu,pW hg hv,<-jQ,<-jQ,h]
theorem EqAt.up(h:EqAt a u b v g')(hg:g'<=g)(hu:g<=u)(hv:g<=v):EqAt a u b v g:=by
 unfold EqAt at*;rw[pW hg hu,pW hg hv,<-jQ,<-jQ] at h;exact Int.eq_of_mul_eq_mul_right (XX<|mE _) h
theorem EqAt.any(h:EqAt a u b v g)(hu:g<=u)(hv:g<=v)(hu':g'<=u)(Bm:g'<=v):EqAt a u b v g':=by
 by_cases c:g'<=g
 ·exact h.down c hu hv
 ·exact h.up (by lia) hu' Bm
def hm(p:ae×ae):df:=decide (p.1<0\/(p.1=0/\p.2=1))
structure SV(s:df)(m:ag)(e:ae)(p:ae×ae):Prop where
 zero:p.1=0->p.2=if s=ao then 1 else 0
 val:∀g,g<=e->g<=p.2->EqAt p.1 p.2 (sg s*m) e g
theorem SV.one{m:ag}(z:p.1=0->p.2=if s=ao then 1 else 0)(h1:g<=e)(h2:g<=p.2)(h:EqAt p.1 p.2 (sg s*m) e g):SV s m e p:=⟨z,λ_ a b=>h.any h2 h1 b a⟩
theorem oU(s:df):(s=ao/\sg s= -1)\/(s=aM/\sg s=1):=by cases s<;>simp[sg]
theorem SV.oh(h:SV s m e p):p.1=0↔m=0:=by
 have v:=h.val (min e p.2) om om;unfold EqAt at v;have p1:=mE (p.2-min e p.2).toNat;have p2:=mE (e-min e p.2).toNat;constructor
 ·intro z
  rw[z,FG] at v;rcases Int.mul_eq_zero.mp v.symm with c|c
  ·rcases oU s with⟨_,q⟩|⟨_,q⟩<;>rw[q] at c<;>lia
  ·omega
 ·intro z
  rw[z] at v;simp[Int.natCast_zero,Int.mul_zero,FG] at v;rcases Int.mul_eq_zero.mp v with c|c
  ·exact c
  ·omega
theorem SV.hm(h:SV s m e p):Bw.hm p=s:=by
 have v:=h.val (min e p.2) om om;unfold EqAt at v;have p1:=mE (p.2-min e p.2).toNat;have p2:=mE (e-min e p.2).toNat;by_cases z:p.1=0
 ·have:=h.zero z
  cases s
  ·exact hX (by simp at this;lia)
  ·exact dF (by simp at this;lia)
 ·have hm0:m≠0:=λc=>z<|h.oh.mpr c
  have hmp:(0:ae)<m:=by lia
  have hmq:=Int.mul_pos hmp p2;rcases oU s with⟨rfl,q⟩|⟨rfl,q⟩<;>rw[q,jQ] at v
  ·apply dF
   apply rK;intro c;have:0<p.1*2^(p.2-min e p.2).toNat:=Int.mul_pos (by lia) p1;omega
  ·apply hX
   intro c;have c:p.1<0:=by lia
   have:=Pw c p1;omega
def iz(k:aB)(x y:ae×ae):au<|ae×ae:=if 0<x.2-y.2 then
  (if x.1*2^(x.2-y.2).toNat+y.1=0 then L (0,if(hm x&&hm y)=ao then 1 else 0) else fh k (x.1*2^(x.2-y.2).toNat+y.1) y.2)
 else
  (if x.1+y.1*2^(-(x.2-y.2)).toNat=0 then L (0,if(hm x&&hm y)=ao then 1 else 0) else fh k (x.1+y.1*2^(-(x.2-y.2)).toNat) x.2)
theorem plusP_eq(k:aB)(x y:ae×ae):iz k x y=if x.1*2^(x.2-min x.2 y.2).toNat+y.1*2^(y.2-min x.2 y.2).toNat=0 then L (0,if(hm x&&hm y)=ao then 1 else 0)
 else fh k (x.1*2^(x.2-min x.2 y.2).toNat+y.1*2^(y.2-min x.2 y.2).toNat) (min x.2 y.2):=by
 unfold iz;by_cases c:0<x.2-y.2
 ·rw[aK c,show min x.2 y.2=y.2 by lia,show(y.2-y.2).toNat=0 by lia,J3,FE]
 ·rw[ay c,show min x.2 y.2=x.2 by lia,show(x.2-x.2).toNat=0 by lia,J3,FE,show(-(x.2-y.2)).toNat=(y.2-x.2).toNat by lia]
theorem Gy(k:aB)(n:df)(hk:2<=2^k.expo-1):bg k (fL k n)=(0,if n=ao then 1 else 0)/\cV k (fL k n):=by
 obtain⟨w1,w2,w3,w4⟩:=Ft k n<|eZ _;simp only[Ak] at w1 w2 w3 w4;constructor
 ·unfold bg
  rw[w1,w2,aK J]
 ·refine⟨w3,?_⟩
  unfold jH;exact bne_iff_ne.mpr<|by lia
def Gives(k:aB)(r:au<|ae×ae)(o:au F):Prop:=r=o.map (bg k)/\ ∀x,o=L x->cV k x
theorem Vh(k:aB)(hk:2<=2^k.expo-1)(hf:1<=k.frac)(ha:a≠0)(hu:g<=u)(hv:g<=v)(h:EqAt a u b v g):Gives k (fh k a u)<|fE k (decide (b<0)) b.natAbs v aM:=by
 have p1:=mE (u-g).toNat;have p2:=mE (v-g).toNat;have hs:(a<0)↔(b<0):=by
  unfold EqAt at h;constructor
  ·intro c
   have:=Pw c p1;apply rK;intro d;have:0<=b*2^(v-g).toNat:=XR om om;omega
  ·intro c
   have:=Pw c p2;apply rK;intro d;have:0<=a*2^(u-g).toNat:=XR om om;omega
 have hn:a.natAbs*2^(u-g).toNat=b.natAbs*2^(v-g).toNat:=by
  have:=gM Int.natAbs h;rw[FF,FF,J2,J2] at this;exact this
 have e:fE k (decide (b<0)) b.natAbs v aM=fE k (decide (a<0)) a.natAbs u aM:=by
  rw[<-Vi k _ a.natAbs hu,<-Vi k _ b.natAbs hv,hn];simp[hs]
 rw[e];exact EL k u hk hf ha
theorem EF(k:aB)(hk:2<=2^k.expo-1)(hf:1<=k.frac)(hx:SV s m e x)(hy:SV t n f y):Gives k (iz k x y)<|joined k s m e t n f:=by
 rw[plusP_eq,hx.hm,hy.hm];unfold joined;have es:∀b,(if b=ao then(-1) else 1)=sg b:=λ_=>J;simp only[es];have vx:=hx.val (min (min x.2 y.2)<|min e f) (by lia)<|by lia
 have vy:=hy.val (min (min x.2 y.2)<|min e f) (by grind)<|by grind
 generalize hM:x.1*2^(x.2-min x.2 y.2).toNat+y.1*2^(y.2-min x.2 y.2).toNat=aJ;generalize hN:sg s*(m*2^(e-min e f).toNat:ag)+sg t*(n*2^(f-min e f).toNat:ag)=N;have hE:EqAt aJ (min x.2 y.2) N (min e f) (min (min x.2 y.2)<|min e f):=by
  unfold EqAt at*;rw[<-hM,<-hN,Int.add_mul,Int.add_mul,jQ,jQ,<-pW om om,<-pW om om,vx,vy];simp only[qF,qF,i6,i6];rw[jQ,jQ,jQ,jQ,jQ,jQ,<-pW om om,<-pW om om]
 have hz:aJ=0↔N=0:=by
  unfold EqAt at hE;have p1:=mE (min x.2 y.2-min (min x.2 y.2) (min e f)).toNat;have p2:=mE (min e f-min (min x.2 y.2) (min e f)).toNat;constructor
  ·intro c
   simp only[c,FG] at hE;rcases Int.mul_eq_zero.mp hE.symm with d|d<;>omega
  ·intro c
   rw[c,FG] at hE;rcases Int.mul_eq_zero.mp hE with d|d<;>omega
 by_cases c:aJ=0
 ·rw[aK c,aK<|hz.mp c]
  obtain⟨d1,d2⟩:=Gy k (s&&t) hk;refine⟨?_,λz hz=>by cases hz;exact d2⟩;show _=L (bg k _);rw[d1]
 ·rw[ay c,ay λz=>c<|hz.mpr z]
  exact Vh k hk hf c om om hE
def jz(x y:ae×ae):ae×ae:=(0,if(hm x !=hm y)=ao then 1 else 0)
def n_(k:aB)(x y:ae×ae):au<|ae×ae:=if x.1*y.1=0 then L (jz x y) else fh k (x.1*y.1) (x.2+y.2)
def iJ(x y:ae×ae):ae×ae:=if x.1*y.1=0 then jz x y else(x.1*y.1,x.2+y.2)
def gC(x:ae×ae):ae×ae:=if x.1=0 then(0,1-x.2) else(-x.1,x.2)
theorem sg_mul(s t:df):sg s*sg t=sg (s !=t):=by cases s<;>cases t<;>rfl
theorem SV.exact(hx:SV s m e x)(hy:SV t n f y):SV (s !=t) (m*n) (e+f)<|iJ x y:=by
 unfold iJ
 split
 ·rename_i z
  have zz:m*n=0:=by
   rcases Int.mul_eq_zero.mp z with c|c
   ·rw[hx.oh.mp c,Am]
   ·rw[hy.oh.mp c,Nat.mul_zero]
  unfold jz;rw[hx.hm,hy.hm];refine⟨λ_=>J,λg _ _=>?_⟩;unfold EqAt;rw[zz];simp
 ·rename_i z
  have v1:=hx.val (min e x.2) om om;have v2:=hy.val (min f y.2) om om;refine SV.one (g:=min e x.2+min f y.2) (λc=>absurd c z) om (by omega) ?_;unfold EqAt at*;rw[show(x.2+y.2-_).toNat=(x.2-min e x.2).toNat+(y.2-min f y.2).toNat by lia];rw[show(e+f-_).toNat=(e-min e x.2).toNat+(f-min f y.2).toNat by lia];simp only[Py,Py,<-sg_mul,qF]
  calc x.1*y.1*_=x.1*2^(x.2-min e x.2).toNat*(y.1*2^(y.2-min f y.2).toNat):=by ac_rfl
   _=_:=by rw[v1,v2]
   _=_:=by ac_rfl
theorem SV.Ez(hx:SV s m e x):SV (!s) m e<|gC x:=by
 unfold gC
 split
 ·rename_i z
  have:=hx.zero z;refine⟨λ_=>by rw[this];cases s<;>rfl,λg _ _=>?_⟩;unfold EqAt;rw[hx.oh.mp z];simp
 ·rename_i z
  refine⟨λc=>absurd c<|by lia,λg h1 h2=>?_⟩;have v:=hx.val g h1 h2;unfold EqAt at*;rw[Int.neg_mul,v]
  cases s<;>simp[sg,Int.neg_mul]
theorem times_spec(k:aB)(hk:2<=2^k.expo-1)(hf:1<=k.frac)(hx:SV s m e x)(hy:SV t n f y):Gives k (n_ k x y)<|fE k (s !=t) (m*n) (e+f) aM:=by
 have hE:=hx.exact hy;unfold n_;unfold iJ at hE;by_cases z:x.1*y.1=0
 ·rw[aK z]
  rw[aK z] at hE;have zz:=hE.oh.mp J;unfold fE;rw[aK zz];obtain⟨d1,d2⟩:=Gy k (s !=t) hk;refine⟨?_,λz hz=>by cases hz;exact d2⟩;show _=L (bg k _);rw[d1];unfold jz;rw[hx.hm,hy.hm]
 ·rw[ay z]
  rw[ay z] at hE;have v:=hE.val (min (e+f)<|x.2+y.2) om<|by omega
  have g:=Vh k hk hf z om om v;have gZ:m*n≠0:=λc=>z<|hE.oh.mpr c;have e1:(sg (s !=t)*(m*n:ag)).natAbs=m*n:=by
   rcases oU (s !=t) with⟨_,q⟩|⟨_,q⟩<;>rw[q]<;>omega
  have e2:decide (sg (s !=t)*(m*n:ag)<0)=(s !=t):=by
   rcases oU (s !=t) with⟨c,q⟩|⟨c,q⟩<;>rw[q,c]
   ·exact dF<|by lia
   ·exact hX om
  rw[e1,e2] at g;exact g
end Bw
namespace Bw
open Rb49
theorem bV.expo(h:bV k):2<=2^k.expo-1:=by rcases h with rfl|rfl<;>decide
theorem bV.frac(h:bV k):1<=k.frac:=by rcases h with rfl|rfl<;>decide
structure cq(k:aB)(p:ae×ae)(a:ag):Prop where
 fits:cV k a
 sv:SV (dO k a) (whole k a).1 (whole k a).2 p
 small:p.1.natAbs<2^53/\ -1074<=p.2/\p.2<=971
theorem JI(k:aB)(x:ag):k.least<=(whole k x).2:=by
 unfold whole
 split
 ·exact Int.le_refl _
 ·show _<=k.least+(field k x)-1
  lia
theorem Dx(k:aB)(x:ag):SV (dO k x) (whole k x).1 (whole k x).2<|bg k x:=by
 unfold bg
 split
 ·rename_i z
  refine⟨λ_=>J,λg _ _=>?_⟩;unfold EqAt;rw[z];simp
 ·rename_i z
  refine⟨λc=>?_,λg _ _=>J⟩;rcases oU _ with⟨_,q⟩|⟨_,q⟩<;>rw[q] at c<;>lia
theorem Xg{a:ag}(h:jH k a=ao)(hk:2<=2^k.expo-1):(whole k a).2<=aO k:=by
 have h1:field k a<2^k.expo:=rP _<|eZ _;have h2:=bne_iff_ne.mp h;unfold whole aO
 split
 ·show k.least<=_
  lia
 ·show k.least+(field k a)-1<=_
  lia
theorem O9(k:aB)(a:ag):(whole k a).1<2^(k.frac+1):=by
 unfold whole
 split
 ·show a%2^k.frac<_
  omega
 ·show a%2^k.frac+2^k.frac<_
  omega
theorem cq.bg(hk:bV k)(h:cV k a):cq k (bg k a) a:=by
 refine⟨h,Dx k a,?_⟩;have h1:=O9 k a;have h2:=JI k a;have h3:=Xg h.2 hk.expo;have b:(-1074)<=k.least/\aO k<=971/\2^(k.frac+1)<=2^53:=by rcases hk with rfl|rfl<;>decide
 unfold Bw.bg
 split
 ·refine⟨by show(0:ae).natAbs<2^53;decide,?_,?_⟩<;>show _<=_<;>split<;>decide
 ·refine⟨?_,XQ b.1 h2,XQ h3 b.2.1⟩
  have:(sg (dO k a)*((whole k a).1)).natAbs=(whole k a).1:=by rcases oU _ with⟨_,q⟩|⟨_,q⟩<;>rw[q]<;>lia
  lia
section
variable{k:aB}{x y z:ae×ae}{a b c:ag}
theorem Vc(hk:bV k)(hx:cq k x a)(hy:cq k y b):Gives k (iz k x y)<|add k a b:=EF k hk.expo hk.frac hx.sv hy.sv
theorem rep_mul(hk:bV k)(hx:cq k x a)(hy:cq k y b):Gives k (n_ k x y)<|mul k a b:=times_spec k hk.expo hk.frac hx.sv hy.sv
theorem AO(b:df):(b !=aM)=b:=by cases b<;>rfl
theorem Gh(b:df):(b !=ao)= !b:=by cases b<;>rfl
theorem rep_ma(hk:bV k)(hx:cq k x a)(hy:cq k y b)(hz:cq k z c):Gives k (iz k (iJ x y) z)<|ma k a b c:=by
 unfold ma fused;rw[AO,AO];exact EF k hk.expo hk.frac (hx.sv.exact hy.sv) hz.sv
theorem rep_ms(hk:bV k)(hx:cq k x a)(hy:cq k y b)(hz:cq k z c):Gives k (iz k (iJ x y)<|gC z)<|ms k a b c:=by
 unfold ms fused;rw[AO,Gh];exact EF k hk.expo hk.frac (hx.sv.exact hy.sv) hz.sv.Ez
theorem rep_nma(hk:bV k)(hx:cq k x a)(hy:cq k y b)(hz:cq k z c):Gives k (iz k (gC<|iJ x y) z)<|nma k a b c:=by
 unfold nma fused;rw[Gh,AO];exact EF k hk.expo hk.frac (hx.sv.exact hy.sv).Ez hz.sv
theorem rep_nms(hk:bV k)(hx:cq k x a)(hy:cq k y b)(hz:cq k z c):Gives k (iz k (gC<|iJ x y)<|gC z)<|nms k a b c:=by
 unfold nms fused;rw[Gh,Gh];exact EF k hk.expo hk.frac (hx.sv.exact hy.sv).Ez hz.sv.Ez
theorem MZ(h:a<2*k.sign):dO k (qY k a)= !dO k a/\whole k (qY k a)=whole k a/\qY k a<2*k.sign/\field k (qY k a)=field k a:=by
 have hA:=eZ k.frac;have d5:∀u,field k (u+k.sign)=field k u/\(u+k.sign)%2^k.frac=u%2^k.frac:=λu=>by
  constructor
  ·unfold field
   rw[xQ,Yg _ _ hA,Nat.add_mod_right]
  ·rw[xQ,Yh]
 unfold qY;by_cases n:k.sign<=a
 ·have hn:dO k a=ao:=dF n
  rw[hn,aK J];have kk:=d5<|a-k.sign;rw[show a-k.sign+k.sign=a by omega] at kk;refine⟨hX om,?_,(show(a-k.sign)<2*k.sign by omega),kk.1.symm⟩;unfold whole;rw[kk.1,kk.2]
 ·have hn:dO k a=aM:=hX n
  rw[hn,ay dc];have kk:=d5 a;refine⟨dF<|by lia,?_,(show(a+k.sign)<2*k.sign by lia),kk.1⟩;unfold whole;rw[kk.1,kk.2]
theorem Lb(h:cV k a):cV k<|qY k a:=by
 obtain⟨_,_,h3,h4⟩:=MZ h.1;refine⟨h3,?_⟩;have:=h.2;unfold jH at*;rw[h4];exact this
theorem rep_opp(h:cq k x a):cq k (gC x)<|qY k a:=by
 obtain⟨h1,h2,h3,h4⟩:=MZ h.fits.1;refine⟨Lb h.fits,by rw[h1,h2];exact h.sv.Ez,?_⟩;have sm:=h.small;unfold gC
 split
 ·rename_i z
  have:=h.sv.zero z;refine⟨by show(0:ae).natAbs<2^53;decide,?_,?_⟩
  ·show-1074<=1-x.2
   split at this<;>omega
  ·show 1-x.2<=971
   split at this<;>omega
 ·exact⟨by omega,sm.2⟩
theorem Rj(h:a<2*k.sign):gC (bg k a)=bg k (qY k a):=by
 obtain⟨h1,h2,h3,h4⟩:=MZ h;unfold bg gC;rw[h1,h2];by_cases z:(whole k a).1=0
 ·rw[aK z,aK z,aK J]
  cases dO k a<;>rfl
 ·rw[ay z,ay z]
  have:¬sg (dO k a)*((whole k a).1)=0:=by rcases oU _ with⟨_,q⟩|⟨_,q⟩<;>rw[q]<;>lia
  rw[ay this]
  cases dO k a<;>simp[sg]
theorem rep_sub(hk:bV k)(hx:cq k x a)(hy:cq k y b):Gives k (iz k x<|gC y)<|sub k a b:=Vc hk hx<|rep_opp hy
def lI(x:ae×ae):ae×ae:=if hm x=ao then gC x else x
theorem V1(h:a<2*k.sign):size k a=if dO k a=ao then qY k a else a:=by
 unfold size qY;by_cases n:k.sign<=a
 ·have hn:dO k a=ao:=dF n
  rw[hn,aK J,aK J,P0 n,rO om]
 ·have hn:dO k a=aM:=hX n
  rw[hn,ay dc,rO om]
theorem Z9(h:a<2*k.sign):lI (bg k a)=bg k (size k a):=by
 unfold lI;rw[(Dx k a).hm,V1 h];by_cases n:dO k a=ao
 ·rw[aK n,aK n,Rj h]
 ·rw[ay n,ay n]
theorem size_lt(a:ag): @LT.lt ag _ (size k a) k.sign:=rP _ (by unfold J4;exact eZ _)
theorem size_pos(a:ag):dO k (size k a)=aM:=hX (Nat.not_le_of_lt<|size_lt a)
theorem RM(h:cV k a):cV k<|size k a:=by
 rw[V1 h.1]
 split
 ·exact Lb h
 ·exact h
theorem size_sign(a:ag):size k a+k.sign=qY k (size k a):=by
 unfold qY;rw[size_pos,ay dc]
def jW(x y:ae×ae):df:=if 0<x.2-y.2 then decide (x.1*2^(x.2-y.2).toNat<y.1) else decide (x.1<y.1*2^(-(x.2-y.2)).toNat)
theorem Hx{u v p:ae}(hp:0<p):u*p<v*p↔u<v:=⟨λh=>Int.lt_of_mul_lt_mul_right h<|Int.le_of_lt hp,λh=>Int.mul_lt_mul_of_pos_right h hp⟩
theorem rep_below(hx:cq k x a)(hy:cq k y b):jW x y=below k a b:=by
 have e0:jW x y=decide (x.1*2^(x.2-min x.2 y.2).toNat<y.1*2^(y.2-min x.2 y.2).toNat):=by
  unfold jW;by_cases c:0<x.2-y.2
  ·rw[aK c,show min x.2 y.2=y.2 by grind,show(y.2-y.2).toNat=0 by lia,J3,FE]
  ·rw[ay c,show min x.2 y.2=x.2 by lia,show(x.2-x.2).toNat=0 by lia,J3,FE,show(-(x.2-y.2)).toNat=(y.2-x.2).toNat by lia]
 rw[e0];unfold below Ab;have la:=JI k a;have lb:=JI k b;have vx:=hx.sv.val (min (min x.2 y.2) k.least) om om;have vy:=hy.sv.val (min (min x.2 y.2) k.least) om om;have p1:=mE (min x.2 y.2-min (min x.2 y.2) k.least).toNat;have p2:=mE (k.least-min (min x.2 y.2) k.least).toNat;rw[K3,<-Hx p1,jQ,jQ,<-pW om om,<-pW om om,vx,vy,<-Hx p2];rw[pW om la,pW om lb];rw[<-jQ,<-jQ,qF,qF,i6,i6,<-jQ,<-jQ,Hx p2,Hx p2];rfl
theorem rep_isZero(hx:cq k x a):(x.1=0)↔isZero k a=ao:=by
 rw[hx.sv.oh];unfold isZero Ab;have p2:=eZ ((whole k a).2-k.least).toNat;rw[decide_eq_true_iff];constructor
 ·intro z
  rw[z,Am];simp
 ·intro z
  rcases Int.mul_eq_zero.mp z with c|c
  ·split at c<;>lia
  ·rcases Nat.mul_eq_zero.mp (Int.natCast_eq_zero.mp c) with d|d<;>omega
end
end Bw
namespace Bw
open Rb49
theorem zw(h:n+1<=a.log2):a≠0:=by
 rintro rfl
 have:nk 0=0:=by decide
 lia
section
variable{k:aB}
theorem quot_step(neg:df)(t:ae)(hB:0<B)(hl:k.frac+1<=(X/B).log2):fE k neg (2*X/B) (t-1) (2*X%B !=0)=fE k neg (X/B) t (X%B !=0):=by
 have hq:=zw hl;have d:=Al X B;have r1:X%B<B:=rP _ hB;generalize hQ:X/B=Q at*;generalize hR:X%B=R at*;have d5:2*X=B*(2*Q)+2*R:=by rw[<-d,Kh,Nat.mul_left_comm]
 have e1:2*X/B=2*Q+2*R/B:=by rw[d5,Nat.mul_add_div hB]
 have e2:2*X%B=2*R%B:=by rw[d5,Nat.mul_add_mod]
 have hb:2*R/B<=1:=by
  have:2*R/B<2:=(FL hB).mpr om;grind
 rw[e1,e2];refine Iw k neg t hq hb hl (λc=>?_) λc=>?_
 ·have c:=by simpa using c
  subst c;simp
 ·have c:=by simpa using c
  by_cases h:2*R<B
  ·right
   rw[rO h];simp
   lia
  ·left
   have:1<=2*R/B:=(Kc hB).mpr om;omega
theorem U6(neg:df)(t:ae)(hB:0<B)(c:ag)(hl:k.frac+1<=(A*2^c/B).log2):∀j,k.frac+1<=(A*2^(c+j)/B).log2/\fE k neg (A*2^(c+j)/B) (t-(c+j:ag)) (A*2^(c+j)%B !=0)=fE k neg (A*2^c/B) (t-c) (A*2^c%B !=0)
 |0=>⟨hl,J⟩
 |j+1=>by
  obtain⟨i1,i2⟩:=U6 neg t hB c hl j;have e:A*2^(c+(j+1))=2*(A*2^(c+j)):=by rw[<-PX,pw,<-FQ,mn]
  constructor
  ·rw[e]
   have h0:=zw i1;have h1:A*2^(c+j)/B<=2*(A*2^(c+j))/B:=Nat.div_le_div_right<|by lia
   have h2:=(qG h0).mp i1;exact(qG (uh<|gy (Nat.pos_of_ne_zero h0) h1)).mpr<|dN h2 h1
  ·rw[e,<-i2,<-quot_step neg (t-(c+j:ag)) hB i1]
   congr 1
   lia
def gb(k:aB)(x y:ae×ae):ae:=max 0<|(k.frac+1:ag)+2+(fQ y.1)-(fQ x.1)
def lW(k:aB)(x y:ae×ae):au<|ae×ae:=if y.1=0 then ah else if x.1=0 then L (jz x y) else
  let zO:=(x.1.natAbs:ae)*2^(gb k x y).toNat;let m:=2*(zO/(y.1.natAbs))+(if zO%(y.1.natAbs)=0 then 0 else 1)
  fh k (if(hm x !=hm y)=ao then-m else m) (x.2-y.2-gb k x y-1)
theorem Gx(k:aB)(a:ag):(bg k a).1=sg (dO k a)*((whole k a).1):=by
 unfold bg
 split
 ·rename_i z
  rw[z];simp
 ·rfl
theorem sC(k:aB)(a:ag):(bg k a).1.natAbs=(whole k a).1:=by
 rw[Gx];rcases oU _ with⟨_,q⟩|⟨_,q⟩<;>rw[q]<;>lia
theorem yO{a:ag}(h:(bg k a).1≠0):(bg k a).2=(whole k a).2:=by
 have:(whole k a).1≠0:=by rw[<-sC];lia
 unfold bg;rw[ay this]
theorem rep_div(hk:bV k)(_ha:cV k a)(_hb:cV k b):Gives k (lW k (bg k a)<|bg k b)<|div k a b:=by
 have sa:=Dx k a;have sb:=Dx k b;unfold lW;have e1:div k a b=if(whole k b).1=0 then ah else fE k _ _ _ _:=J
 rw[e1];by_cases zb:(bg k b).1=0
 ·rw[aK zb,aK<|sb.oh.mp zb]
  exact⟨J,λ_ h=>nomatch h⟩
 rw[ay zb,ay λc=>zb<|sb.oh.mpr c];by_cases za:(bg k a).1=0
 ·rw[aK za,sa.oh.mp za]
  unfold fE;rw[Am,Yu,aK J];obtain⟨d1,d2⟩:=Gy k _ hk.expo;refine⟨?_,λz hz=>by cases hz;exact d2⟩;show _=L (bg k _);rw[d1];unfold jz;rw[sa.hm,sb.hm]
 rw[ay za];simp only[sa.hm,sb.hm,sC,yO za,yO zb];have Ls:=λc=>za<|sa.oh.mpr c;have Lu:(whole k b).1≠0:=λc=>zb<|sb.oh.mpr c;have DH:=O9 k b;have ll:gb k (bg k a) (bg k b)=max 0 ((k.frac+1:ag)+2+((whole k b).1.log2+1:ag)-(((whole k a).1.log2+1:ag):ae)):=by
  unfold gb;rw[AM za,AM zb,sC,sC]
 generalize(dO k a !=dO k b)=neg;generalize(whole k a).2-(whole k b).2=t;generalize(whole k a).1=A at*;generalize(whole k b).1=B at*;generalize gb k (bg k a) (bg k b)=cN at*;have lB:=(wo Lu).mpr DH;obtain⟨l,rfl⟩:∃l:ag,cN=l:=⟨cN.toNat,(by lia)⟩;have Sf:0<B:=by lia
 have LQ:=by
  have h1:2^(A.log2+l)<=A*2^l:=by rw[jw];exact CG _<|sW Ls
  have h2:B<=2^_:=CD log2_lt;have h3:2^(k.frac+1)<=A*2^l/B:=by
   rw[Kc Sf]
   calc 2^(k.frac+1)*B<=2^(k.frac+1)*2^_:=Yr _ h2
    _=2^(k.frac+1+_):=(jw 2 (k.frac+1) _).symm
    _<=2^_:=ka (by lia) om
    _<=_:=h1
  exact(qG<|by lia).mpr h3
 have sL:k.frac<=52:=by rcases hk with rfl|rfl<;>decide
 have ze:=(U6 neg t Sf l LQ<|120-l).2;rw[show l+_=120 by lia] at ze;have hq0:=zw LQ;have c1:(A*2^(l:ae).toNat)=((A*2^l:ag):ae):=by rw[qF,i6];simp
 rw[c1];have c2:(2*((A*2^l:ag)/B)+(if(A*2^l:ag)%(B:ae)=0 then 0 else 1))=((2*(A*2^l/B)+(if A*2^l%B=0 then 0 else 1):ag):ae):=by
  split<;>split<;>lia
 rw[c2];have st:=Iw k neg (b:=if A*2^l%B=0 then 0 else 1) (t-l) (s:=A*2^l%B !=0) hq0 (by split<;>lia) LQ
  (λc=>by
    have c:=by simpa using c
    exact⟨aK c,J⟩)
  (λc=>by
    have c:=by simpa using c
    exact .inl<|ay c)
 rw[show((120:ag):ae)=120 from J] at ze;rw[ze,<-st];generalize hM:2*_+(if A*2^l%B=0 then 0 else 1)=aJ;have rs:=EL k (m:=if neg=ao then-aJ else aJ) (t-l-1) hk.expo hk.frac<|by split<;>lia
 have n1:(if neg=ao then-(aJ:ae) else aJ).natAbs=aJ:=by split<;>omega
 have n2:decide ((if neg=ao then-(aJ:ae) else aJ)<0)=neg:=by
  cases neg
  ·exact hX<|by simp
  ·exact dF (by simp;lia)
 rw[n1,n2] at rs;exact rs
end
def m6(m r:ag):Prop:=r*r<=m/\m<(r+1)*(r+1)
theorem m6.Aa(h:m6 m r)(g:m6 m s):r=s:=by
 have d5:∀{r s:ag},m6 m r->m6 m s->r<=s:=λ{r s}h g=>by
  apply rK;intro c;have:(s+1)*(s+1)<=r*r:=rQ om om;have:=h.1;have:=g.2;omega
 exact Nat.le_antisymm (d5 h g)<|d5 g h
theorem Nm(m:ag):∀n lo hi,lo<hi->lo*lo<=m->m<hi*hi->hi-lo<=2^n->m6 m (rootFrom n lo hi m)
 |0,lo,hi,h0,h1,h2,h3=>by
  have:hi=lo+1:=by simp at h3;lia
  subst this;exact⟨h1,h2⟩
 |n+1,lo,hi,h0,h1,h2,h3=>by
  unfold rootFrom
  split
  ·have:hi=lo+1:=by lia
   subst this;exact⟨h1,h2⟩
  ·have hp:2^(n+1)=2*2^n:=by rw[pw];lia
   show m6 m (if _/2*_<=m then _ else _)
   split
   ·rename_i c
    exact Nm m n _ _ om c h2 om
   ·rename_i c
    exact Nm m n _ _ om h1 om om
theorem wU(m:ag):m6 m<|floorRoot m:=by
 refine Nm m _ _ _ om (by lia) ?_ ?_
 ·have:m+1<=(m+1)*(m+1):=Nat.le_mul_of_pos_right _ om
  omega
 ·have h1:=log2_lt (a:=m)
  have h2:2^(m.log2+1)<=2^(2*m.log2+4):=ka (by lia) (by lia)
  lia
theorem newton_start:n<(2^((n.log2+1+1)/2)+1)*(2^((n.log2+1+1)/2)+1):=by
 have h1:=log2_lt (a:=n);have h2:2^(n.log2+1)<=2^((n.log2+1+1)/2+(n.log2+1+1)/2):=ka om om;rw[jw 2<|_/2] at h2;generalize 2^(_/2)=g at*;have:g*g<=(g+1)*(g+1):=rQ om om;omega
theorem four_mul(x y:ag):4*(x*y)<=(x+y)*(x+y):=by
 have h:∀a b,a<=b->4*(a*b)<=(a+b)*(a+b):=λa b Si=>by
  obtain⟨c,rfl⟩:=Nat.exists_eq_add_of_le Si;have e:(a+(a+c))*(a+(a+c))=4*(a*(a+c))+c*c:=by
   simp[Nat.add_mul,Kh,mn c a]
   lia
  omega
 rcases Yn x y with c|c
 ·exact h x y c
 ·have:=h y x c
  rw[mn x y,PY x y];exact this
theorem newton_step(hn:0<n)(hg:0<g)(hb:(g+n/g)/2<g):0<(g+n/g)/2/\n<((g+n/g)/2+1)*((g+n/g)/2+1):=by
 have d:=Al n g;have r:=rP n hg;generalize n/g=q at*;constructor
 ·by_cases c:g=1
  ·subst c
   lia
  ·lia
 ·generalize hB:_/2+1=B
  have h1:g+(q+1)<=2*B:=by lia
  have h2:=four_mul g<|q+1;have h3:=rQ h1 h1;have h4:(2*B)*(2*B)=4*(B*B):=by rw[CI]
  have h5:n<g*(q+1):=by rw[Kh,Nat.mul_one];lia
  lia
theorem newton_end(hg:0<g)(h:n<(g+1)*(g+1))(hb:¬(g+n/g)/2<g):m6 n g:=by
 refine⟨?_,h⟩;have:g<=n/g:=by lia
 exact(Kc hg).mp this
section
variable{k:aB}
theorem root_step(t:ae)(hr:m6 m r)(hs:m6 (4*m) s)(hl:k.frac+1<=r.log2):fE k aM s (t-1) (s*s !=4*m)=fE k aM r t (r*r !=m):=by
 have w_:=zw hl;obtain⟨h1,h2⟩:=hr;obtain⟨g1,g2⟩:=hs;have lo:2*r<=s:=by
  apply rK;intro c;have:(s+1)*(s+1)<=(2*r)*(2*r):=rQ om om;rw[CI] at this
  lia
 have hi:s<=2*r+1:=by
  apply rK;intro c;have:(2*(r+1))*(2*(r+1))<=s*s:=rQ om om;rw[CI] at this
  lia
 obtain⟨b,rfl⟩:∃b,s=2*r+b:=⟨s-2*r,(by grind)⟩;refine Iw k aM t w_ (by lia) hl (λc=>?_) λc=>?_
 ·have c:=by simpa using c
  have b0:b=0:=by
   apply rK;intro z;have z:b=1:=by lia
   subst z;have:(2*r)*(2*r)<(2*r+1)*(2*r+1):=P1 om om;rw[CI] at this
   lia
  subst b0;rw[<-c,Ak,CI];simp
 ·have c:=by simpa using c
  by_cases z:b=1
  ·exact .inl z
  ·have z:b=0:=by lia
   subst z;rw[Ak,CI];simp
   lia
theorem Vg(t:ae)(c:ag)(hr:m6 (A*2^c) r)(hl:k.frac+1<=r.log2):∀j{s:ag},m6 (A*2^(c+2*j)) s->k.frac+1<=s.log2/\fE k aM s (t-j) (s*s !=A*2^(c+2*j))=fE k aM r t (r*r !=A*2^c)
 |0,s,hs=>by
  have e:=hs.Aa hr;subst e;exact⟨hl,by simp⟩
 |j+1,s,hs=>by
  obtain⟨i1,i2⟩:=Vg t c hr hl j<|wU _;have e:A*2^(c+2*(j+1))=4*(A*2^(c+2*j)):=by
   rw[show c+2*_=(c+2*j)+2 by lia,jw];rw[<-FQ,mn]
  rw[e] at hs⊢;have st:=root_step (t-j) (wU _) hs i1;constructor
  ·have fr:=(wU<|A*2^(c+2*j)).1
   generalize floorRoot _=r' at*;have h0:=zw i1;have h1:=(qG h0).mp i1;have:r'<=s:=by
    apply rK;intro d;have:(s+1)*(s+1)<=r'*r':=rQ om om;have:=hs.2
    lia
   exact(qG<|by lia).mpr<|by grind
  ·rw[<-i2,<-st]
   congr 1
   lia
end
end Bw
namespace Bw
open Rb49
section
variable{k:aB}
def lZ(k:aB)(x:ae×ae):au<|ae×ae:=if x.1=0 then L x else if x.1<0 then ah else
  let l:ae:=2*(k.frac+1:ag)+4+x.2%2;let zO:ag:=x.1.toNat*2^l.toNat
  fh k (2*(floorRoot zO)+(if floorRoot zO*floorRoot zO=zO then 0 else 1)) ((x.2-l)/2-1)
theorem rep_root(hk:bV k)(ha:cV k a):Gives k (lZ k<|bg k a)<|root k a:=by
 have sa:=Dx k a;unfold lZ;have e1:root k a=if(whole k a).1=0 then L a else if dO k a=ao then ah else
  fE k aM _ _
   _:=J
 rw[e1];by_cases za:(bg k a).1=0
 ·rw[aK za,aK<|sa.oh.mp za]
  exact⟨J,λz hz=>by cases hz;exact ha⟩
 have Ls:(whole k a).1≠0:=λc=>za<|sa.oh.mpr c;rw[ay za,ay Ls];by_cases hn:dO k a=ao
 ·have:(bg k a).1<0:=by
   rw[Gx,hn];show-1*_<0
   lia
  rw[aK this,aK hn];exact⟨J,λ_ h=>nomatch h⟩
 have mD:=by simpa using hn
 have hd:(bg k a).1=((whole k a).1:ae):=by
  rw[Gx,mD];show 1*_=_
  lia
 rw[ay (by rw[hd];lia),ay hn,yO za];have ht:(bg k a).1.toNat=(whole k a).1:=by rw[hd];lia
 rw[ht];show Gives k (fh k _ _) _;generalize(whole k a).1=A at*;generalize(whole k a).2=e at*;have sL:k.frac<=52:=by rcases hk with rfl|rfl<;>decide
 obtain⟨l,hl⟩:∃l:ag,(2*(k.frac+1:ag)+4+e%2)=l:=⟨(2*(k.frac+1:ag)+4+e%2).toNat,(by lia)⟩;rw[hl,show((l:ae)).toNat=l by lia];have fr:=wU<|A*2^l;have w8:k.frac+1<=(floorRoot<|A*2^l).log2:=by
  generalize floorRoot (A*2^l)=r at*;have h1:2^(k.frac+2)*2^(k.frac+2)<=A*2^l:=by
   rw[<-jw]
   calc 2^(k.frac+2+(k.frac+2))<=2^l:=ka (by lia) (by lia)
    _<=A*2^l:=Ym _<|by lia
  have h2:2^(k.frac+2)<=r:=by
   apply rK;intro c;have:(r+1)*(r+1)<=2^(k.frac+2)*2^(k.frac+2):=rQ om om;have:=fr.2;grind
  have h3:=eZ<|k.frac+2;have h4:2^(k.frac+1)<=2^(k.frac+2):=ka (by lia)<|by lia
  exact(qG om).mpr<|by grind
 obtain⟨j,hj⟩:∃j:ag,(if e%2=0 then 120 else 121:ag)=l+2*j:=⟨57-k.frac,by split<;>lia⟩;rw[hj];have sc:=(Vg ((e-l)/2) l fr w8 j<|wU _).2;rw[show(e-(l+2*j:ag))/2=(e-l)/2-j by lia,sc];have st:=Iw k aM (b:=if floorRoot _*floorRoot _=A*2^l then 0 else 1) ((e-l)/2) (s:=floorRoot (A*2^l)*floorRoot (A*2^l)!=A*2^l) (zw w8) (by split<;>lia) w8
  (λc=>by
    have c:=by simpa using c
    exact⟨aK c,J⟩)
  (λc=>by
    have c:=by simpa using c
    exact .inl<|ay c)
 rw[<-st];have w_:=zw w8;generalize floorRoot (A*2^l)=r at*;have c2:2*r+(if r*r=A*2^l then 0 else 1)=((2*r+(if r*r=A*2^l then 0 else 1):ag):ae):=by split<;>lia
 rw[c2];generalize hM:2*r+(if r*r=A*2^l then 0 else 1)=aJ;have rs:=EL k (m:=aJ) ((e-(l:ae))/2-1) hk.expo hk.frac<|by lia
 exact rs
def nJ(k:aB)(QV:ae):au<|ae×ae:=let S:=k.frac+k.expo;let tI:=QV/2^S;let size:=QV-tI*2^S;let sN:ae:=2^k.frac;let fld:=size/sN
 if aO k-k.least+1<fld then ah
 else if size=0 then L (0,tI)
 else
  let m:=if fld=0 then size else size%sN+sN
  let e:=if fld=0 then k.least else k.least+fld-1
  L (if tI=1 then-m else m,e)
theorem from_spec(hx:x<2*k.sign):nJ k x=if jH k x=ao then L (bg k x) else ah:=by
 have hA:=eZ k.frac;have hE:=eZ k.expo;obtain⟨n,f,r,hn,hf,hr,rfl⟩:∃(n:df)(f r:ag),n=dO k x/\f<2^k.expo/\r<2^k.frac/\x=fL k n+f*2^k.frac+r:=by
  refine⟨dO k x,x%k.sign/2^k.frac,x%k.sign%2^k.frac,J,?_,rP _ hA,?_⟩
  ·rw[FL hA,mn,<-xQ]
   exact rP _ (by rw[xQ];exact P2 hA hE)
  ·have:=Al (x%k.sign)<|2^k.frac
   rw[PX,mn _ _,this];unfold fL dO;by_cases c:k.sign<=x
   ·rw[dF c,aK J,P0 c,rO om]
    omega
   ·rw[hX c,ay dc,rO<|by lia]
    lia
 obtain⟨p1,p2,p3,p4,p5⟩:=GG k n hf hr;have VX:(fL k n+f*2^k.frac+r:ag)=(f*2^k.frac+r:ag)+(if n=ao then 1 else 0)*((2:ae)^(k.frac+k.expo)):=by
  have:2^(k.frac+k.expo)=(k.sign:ae):=by unfold J4;rw[i6]
  unfold fL
  split<;>lia
 have hdiv:((fL k n+f*2^k.frac+r:ag):ae)/2^(k.frac+k.expo)=if n=ao then 1 else 0:=by
  rw[VX,XM _ _ (XX<|mE _)];rw[XO (by lia) (by rw[<-i6];exact Int.ofNat_lt.mpr p5)]
  lia
 have nR:(fL k n+f*2^k.frac+r:ag)-(if n=ao then 1 else 0)*(2^(k.frac+k.expo))=((f*2^k.frac+r:ag):ae):=by rw[VX];lia
 have hfld:(f*2^k.frac+r:ag)/2^k.frac=(f:ae):=by
  rw[<-i6,<-Px,PY,Nat.add_mul_div_right _ _ hA,Yk hr,FR]
 have hrem:(f*2^k.frac+r:ag)%2^k.frac=(r:ae):=by
  rw[<-i6,<-XU,PY,Nat.add_mul_mod_self_right,rO hr]
 have hdec:bg k (fL k n+f*2^k.frac+r)=if f=0/\r=0 then(0,if n=ao then 1 else 0) else(sg n*(if f=0 then(r:ae) else r+2^k.frac),if f=0 then k.least else k.least+f-1):=by
  unfold bg whole;rw[p1,p2,p3];by_cases c:f=0
  ·simp[c,nT,Fn]
  ·have:¬(r+2^k.frac=0):=by lia
   simp only[c,xa,false_and,this];rw[XS,i6]
 have Ss:jH k (fL k n+f*2^k.frac+r)=ao↔¬aO k-k.least+1<f:=by
  unfold jH aO;rw[p1,bne_iff_ne]
  lia
 unfold nJ;simp only[hdiv,nR,hfld,hrem];by_cases c:aO k-k.least+1<f
 ·rw[aK c,ay λz=>Ss.mp z c]
 ·rw[ay c,aK<|Ss.mpr c,hdec]
  by_cases z:f=0/\r=0
  ·rw[aK z,aK (by rw[z.1,z.2];simp)]
  ·have z0:¬((f*2^k.frac+r:ag):ae)=0:=by
    intro q;apply z;have q1:f*2^k.frac=0:=by omega
    rcases Nat.mul_eq_zero.mp q1 with d|d<;>constructor<;>omega
   rw[ay z,ay z0];by_cases fz:f=0
   ·subst fz
    cases n<;>simp[sg]
   ·have fz':¬(f:ae)=0:=by lia
    simp[fz,fz',xa]
    cases n<;>simp[sg]
def oa(k:aB)(x:ae×ae):ae:=if x.1=0 then x.2*2^(k.frac+k.expo)
 else
  let size:=(x.2-k.least)*2^k.frac+(x.1.natAbs)
  if x.1<0 then size+2^(k.frac+k.expo) else size
theorem parts(hx:x<2*k.sign):∃(n:df)(f r:ag),f<2^k.expo/\r<2^k.frac/\x=fL k n+f*2^k.frac+r:=by
 have hA:=eZ k.frac;have hE:=eZ k.expo;refine⟨dO k x,x%k.sign/2^k.frac,x%k.sign%2^k.frac,?_,rP _ hA,?_⟩
 ·rw[FL hA,mn,<-xQ]
  exact rP _ (by rw[xQ];exact P2 hA hE)
 ·have:=Al (x%k.sign)<|2^k.frac
  rw[PX,mn _ _,this];unfold fL dO;by_cases c:k.sign<=x
  ·rw[dF c,aK J,P0 c,rO om]
   omega
  ·rw[hX c,ay dc,rO om]
   omega
theorem OY(hx:x<2*k.sign):oa k (bg k x)=x:=by
 obtain⟨n,f,r,hf,hr,rfl⟩:=parts hx;obtain⟨p1,p2,p3,p4,p5⟩:=GG k n hf hr;have es:2^(k.frac+k.expo)=(k.sign:ae):=by unfold J4;rw[i6]
 unfold oa bg whole;rw[p1,p2,p3,es];by_cases c:f=0
 ·subst c
  by_cases z:r=0
  ·subst z
   unfold fL
   cases n<;>simp
  ·simp only[nT,z,xa]
   have h1:¬(sg n*r=0):=by rcases oU n with⟨_,q⟩|⟨_,q⟩<;>rw[q]<;>lia
   have h2:(sg n*r).natAbs=r:=by rcases oU n with⟨_,q⟩|⟨_,q⟩<;>rw[q]<;>lia
   rw[ay h1,h2,Int.sub_self,FG,wc,Am,Ak];unfold fL
   cases n
   ·rw[ay (by show¬1*(r:ae)<0;lia),ay dc]
    lia
   ·rw[aK (by show-1*(r:ae)<0;lia),aK J]
    lia
 ·have:¬(r+2^k.frac=0):=by lia
  simp only[c,xa,this];have h1:¬(sg n*(r+2^k.frac:ag)=0):=by rcases oU n with⟨_,q⟩|⟨_,q⟩<;>rw[q]<;>lia
  have h2:(sg n*(r+2^k.frac:ag)).natAbs=r+2^k.frac:=by rcases oU n with⟨_,q⟩|⟨_,q⟩<;>rw[q]<;>lia
  rw[ay h1,h2];have h3:(k.least+f-1-k.least)*2^k.frac+(r+2^k.frac:ag)=(f*2^k.frac+r:ag):=by
   rw[show k.least+f-1-k.least=f-1 by lia,Int.sub_mul,Af,<-i6,<-qF]
   lia
  unfold fL
  cases n
  ·rw[ay (by show¬1*((r+2^k.frac:ag):ae)<0;lia),ay dc]
   omega
  ·rw[aK (by show-1*((r+2^k.frac:ag):ae)<0;omega),aK J]
   omega
theorem Z7(hx:x<2*k.sign)(hy:y<2*k.sign)(h:bg k x=bg k y):x=y:=by
 have:=OY hx;rw[h,OY hy] at this
 lia
end
theorem Ve(h:bV k):cq k (0,0) 0:=by
 rcases h with rfl|rfl
 ·exact⟨⟨dc,dc⟩,SV.one (g:= -1074) (λ_=>J) dc dc (by unfold EqAt;decide+kernel),dc⟩
 ·exact⟨⟨dc,dc⟩,SV.one (g:= -149) (λ_=>J) dc dc (by unfold EqAt;decide+kernel),dc⟩
theorem Iu(h:bV k):cq k (1,-1)<|lN k:=by
 rcases h with rfl|rfl
 ·exact⟨⟨dk,dk⟩,SV.one (g:= -53) (λc=>nomatch c) dk dc (by unfold EqAt;decide+kernel),dc⟩
 ·exact⟨⟨dk,dk⟩,SV.one (g:= -53) (λc=>nomatch c) dk dc (by unfold EqAt;decide+kernel),dc⟩
theorem rep_one(h:bV k):cq k (1,0)<|one k:=by
 rcases h with rfl|rfl
 ·exact⟨⟨dk,dk⟩,SV.one (g:= -53) (λc=>nomatch c) dk dc (by unfold EqAt;decide+kernel),dc⟩
 ·exact⟨⟨dk,dk⟩,SV.one (g:= -53) (λc=>nomatch c) dk dc (by unfold EqAt;decide+kernel),dc⟩
theorem Vd(h:bV k):cq k (1,-2)<|oP k (-2):=by
 rcases h with rfl|rfl
 ·exact⟨⟨dk,dk⟩,SV.one (g:= -54) (λc=>nomatch c) dk dc (by unfold EqAt;decide+kernel),dc⟩
 ·exact⟨⟨dk,dk⟩,SV.one (g:= -54) (λc=>nomatch c) dk dc (by unfold EqAt;decide+kernel),dc⟩
theorem rep_four(h:bV k):cq k (1,2)<|oP k 2:=by
 rcases h with rfl|rfl
 ·exact⟨⟨dk,dk⟩,SV.one (g:= -54) (λc=>nomatch c) dk dc (by unfold EqAt;decide+kernel),dc⟩
 ·exact⟨⟨dk,dk⟩,SV.one (g:= -54) (λc=>nomatch c) dk dc (by unfold EqAt;decide+kernel),dc⟩
theorem rep_64(h:bV k):cq k (1,64)<|oP k 64:=by
 rcases h with rfl|rfl
 ·exact⟨⟨dk,dk⟩,SV.one (g:= -54) (λc=>nomatch c) dk dc (by unfold EqAt;decide+kernel),dc⟩
 ·exact⟨⟨dk,dk⟩,SV.one (g:= -54) (λc=>nomatch c) dk dc (by unfold EqAt;decide+kernel),dc⟩
end Bw
namespace Bw
open Rb49
section
variable{k:aB}
theorem GP{x:ag}(hq:k.least<=q)(hl:n<2^k.frac->q=k.least)(hn:n<2^(k.frac+1))(h:dr k neg n q=L x):whole k x=(n,q)/\dO k x=neg:=by
 unfold dr at h;by_cases h1:n<2^k.frac
 ·rw[aK h1] at h
  cases h
  obtain⟨w1,w2,_,_⟩:=Ft k neg h1;rw[w1,w2,hl h1];exact⟨J,J⟩
 ·rw[ay h1] at h
  split at h
  ·cases h
  ·rename_i hc
   cases h
   have Bh:n-2^k.frac<2^k.frac:=by rw[pw] at hn;grind
   obtain⟨w1,w2,w3,w4⟩:=Xf k neg (f:=(q-k.least+1).toNat) (by lia) (by lia) Bh;rw[w1,w2];refine⟨?_,J⟩;rw[show n-2^k.frac+2^k.frac=n by grind,show k.least+((q-k.least+1).toNat)-1=q by grind]
def iN(k:aB)(x:ag):ae:=(whole k x).2+((whole k x).1.log2)
theorem Vj{x:ag}(h:fE k neg m e more=L x):dO k x=neg:=by
 by_cases h0:m=0
 ·subst h0
  cases h
  exact(Ft k neg<|eZ _).2.1
 obtain⟨n1,n2,n3⟩:=Ec k e more h0;rw[vE k neg e more h0] at h;have hA:=eZ k.frac
 split at h
 ·exact(GP (by lia) (λz=>absurd z<|by lia) om h).2
 ·exact(GP n3 n2 om h).2
theorem Mf{x:ag}(h0:m≠0)(hb:k.least<=e+m.log2)(h:fE k neg m e more=L x):(whole k x).1≠0/\e+m.log2<=iN k x:=by
 obtain⟨n1,n2,n3⟩:=Ec k e more h0;rw[vE k neg e more h0] at h;have lO:dz k m e=k.least\/dz k m e=e+(nk m+1:ag)-(k.frac+1:ag):=by unfold dz;lia
 have d5:2^(e+m.log2-dz k m e).toNat<=iu k m e more/\0<=e+m.log2-dz k m e:=by
  refine⟨?_,(by lia)⟩;unfold iu;generalize dz k m e=p at*;by_cases c:p<=e
  ·rw[aK c,show(e+m.log2-p).toNat=m.log2+(e-p).toNat by lia,jw]
   exact CG _<|sW h0
  ·rw[ay c]
   have:=VZ (d:=(p-e).toNat) (f:=(e+m.log2-p).toNat) h0 om;omega
 have gZ:iu k m e more≠0:=by
  have:=eZ (e+m.log2-dz k m e).toNat;omega
 have w8:=(qG gZ).mpr d5.1;unfold iN
 split at h
 ·rename_i c
  obtain⟨w,_⟩:=GP om (λz=>absurd z om) om h;rw[w];rw[c,Kf] at w8;rw[Kf];omega
 ·obtain⟨w,_⟩:=GP n3 n2 om h
  rw[w];refine⟨gZ,?_⟩;show _<=dz k m e+((iu k m e more).log2);omega
theorem Vk(hk:bV k)(neg more:df)(h:m=0\/e+(m.log2:ae)<=60):∃x,fE k neg m e more=L x:=by
 by_cases h0:m=0
 ·subst h0
  exact⟨_,J⟩
 obtain⟨n1,n2,n3⟩:=Ec k e more h0;rw[vE k neg e more h0];have ht:dz k m e+1<=aO k:=by
  have b:k.least+1<=aO k/\61-k.frac<=aO k:=by rcases hk with rfl|rfl<;>decide
  unfold dz
  lia
 have d5:∀n q,k.least<=q->q<=aO k-> ∃x,dr k neg n q=L x:=λn q h1 h2=>by
  unfold dr
  split
  ·exact⟨_,J⟩
  ·rw[ay λz=>absurd ((Fm k h1).mp z)<|by lia]
   exact⟨_,J⟩
 split
 ·exact d5 _ _ om om
 ·exact d5 _ _ n3<|by lia
theorem Mb(h:a≠0):2*a.log2<=(a*a).log2:=by
 have h1:=sW h;have h2:2^(a.log2+a.log2)<=a*a:=by rw[jw];exact rQ h1 h1
 have:=(qG<|rR h h).mpr h2
 lia
theorem sq_mag{x a:ag}(h:mul k x x=L a):dO k a=aM/\((whole k x).1≠0->k.least<=6->3<=iN k x->(whole k a).1≠0/\6<=iN k a):=by
 have s:=Vj h;refine⟨by rw[s];simp,λh0 hl hm=>?_⟩;have hs:=Mb h0;unfold iN at hm;have:=Mf (rR h0 h0) (by lia) h;exact⟨this.1,(by lia)⟩
theorem Hv(h0:a≠0)(h:a<=b):a.log2<=b.log2:=(qG<|by lia).mpr<|dN (sW h0) h
theorem Ma(n:ag)(h0:a≠0):a.log2+n<=(a*2^n).log2:=by
 have h1:2^(a.log2+n)<=a*2^n:=by rw[jw];exact CG _<|sW h0
 exact(qG<|rR h0 (uh<|eZ n)).mpr h1
theorem Me{x a b:ag}(ha:dO k a=aM)(hl:k.least<=6)(h:ma k x x a=L b):dO k b=aM/\(((whole k a).1≠0/\6<=iN k a)\/((whole k x).1≠0/\3<=iN k x)->(whole k b).1≠0/\6<=iN k b):=by
 unfold ma fused at h;rw[ha,AO,AO,show(dO k x !=dO k x)=aM by simp] at h;unfold joined at h;simp only[Ci,xa,Af] at h;generalize hg:min _ (whole k a).2=g at h;generalize hP:(whole k x).1*(whole k x).1*2^((whole k x).2+(whole k x).2-g).toNat=P at h;generalize hQ:(whole k a).1*2^((whole k a).2-g).toNat=Q at h;have hz:(P+(Q:ae)=0)↔P+Q=0:=by omega
 by_cases c:P+Q=0
 ·rw[aK<|hz.mpr c] at h
  cases h
  have w:=Ft k aM<|eZ _;refine⟨w.2.1,λhh=>?_⟩;exfalso;have GY:P=0:=by omega
  have GZ:Q=0:=by omega
  rcases hh with⟨h1,_⟩|⟨h1,_⟩
  ·rw[<-hQ] at GZ
   rcases Nat.mul_eq_zero.mp GZ with d|d
   ·exact h1 d
   ·have:=eZ ((whole k a).2-g).toNat;omega
  ·rw[<-hP] at GY
   rcases Nat.mul_eq_zero.mp GY with d|d
   ·rcases Nat.mul_eq_zero.mp d with d|d<;>exact h1 d
   ·have:=eZ ((whole k x).2+(whole k x).2-g).toNat;omega
 ·rw[ay λz=>c<|hz.mp z] at h
  refine⟨Vj h,λhh=>?_⟩;have KN:6<=g+((P+Q).log2):=by
   rcases hh with⟨h1,h2⟩|⟨h1,h2⟩
   ·have l1:=Ma ((whole k a).2-g).toNat h1
    rw[hQ] at l1;have GZ:Q≠0:=by rw[<-hQ];exact rR h1 (uh<|eZ _)
    have l2:=Hv (b:=P+Q) GZ<|by lia
    unfold iN at h2
    lia
   ·have l0:=Mb h1
    have l1:=Ma ((whole k x).2+(whole k x).2-g).toNat<|rR h1 h1;rw[hP] at l1;have GY:P≠0:=by rw[<-hP];exact rR (rR h1 h1) (uh<|eZ _)
    have l2:=Hv (b:=P+Q) GY<|by lia
    unfold iN at h2
    lia
  have:=Mf c (by lia) h;exact⟨this.1,(by lia)⟩
theorem Xi{n:ag}(hn:dO k n=aM):Ab k n=((whole k n).1*2^((whole k n).2-k.least).toNat:ag):=by
 unfold Ab;rw[hn];simp
theorem Xj(hk:bV k):Ab k (oP k 2)=(2^(2-k.least).toNat:ag)/\Ab k (oP k (-2))=(2^(-2-k.least).toNat:ag):=by
 rcases hk with rfl|rfl<;>constructor<;>decide+kernel
theorem mag_le_of{n:ag}(hk:bV k)(hn:dO k n=aM)(h0:(whole k n).1≠0)(h:below k (oP k 2) n=aM):iN k n<=2:=by
 unfold below at h;rw[(Xj hk).1,Xi hn] at h;have h:=vd h;have b:k.least<= -10:=by rcases hk with rfl|rfl<;>decide
 have l1:=Ma ((whole k n).2-k.least).toNat h0;have l2:(whole k n).1*2^((whole k n).2-k.least).toNat<=2^(2-k.least).toNat:=by omega
 have l3:=Hv (rR h0 (uh<|eZ _)) l2;rw[Kf] at l3;unfold iN;grind
theorem mag_ge_of{n:ag}(hk:bV k)(hn:dO k n=aM)(h:below k n (oP k (-2))=aM):(whole k n).1≠0/\ -2<=iN k n:=by
 unfold below at h;rw[(Xj hk).2,Xi hn] at h;have h:=vd h;have hl:=JI k n;have l2:2^(-2-k.least).toNat<=(whole k n).1*2^((whole k n).2-k.least).toNat:=by omega
 have h0:(whole k n).1≠0:=by
  intro z;rw[z,Am] at l2;have:=eZ (-2-k.least).toNat;omega
 have l3:(whole k n).1*2^((whole k n).2-k.least).toNat<2^((whole k n).1.log2+1+((whole k n).2-k.least).toNat):=by
  rw[jw];exact CH log2_lt<|eZ _
 have l4:(-2-k.least).toNat<(whole k n).1.log2+1+((whole k n).2-k.least).toNat:=by
  apply(Nat.pow_lt_pow_iff_right (a:=2)<|by lia).mp;omega
 unfold iN
 lia
theorem root_some(hk:bV k){n:ag}(hn:dO k n=aM)(h0:(whole k n).1≠0)(h1:iN k n<=2)(h2: -2<=iN k n):∃r,root k n=L r/\(whole k r).1≠0/\ -1<=iN k r:=by
 have e1:root k n=if(whole k n).1=0 then L n else if dO k n=ao then ah else
  fE k aM _ _
   _:=J
 rw[e1,ay h0,ay (by rw[hn];decide)];have hj:(if(whole k n).2%2=0 then 120 else 121)%2=((whole k n).2%2).toNat/\120<=(if(whole k n).2%2=0 then 120 else 121)/\(if(whole k n).2%2=0 then 120 else 121)<=121:=by split<;>lia
 generalize(if(whole k n).2%2=0 then 120 else 121)=j at*;unfold iN at h1 h2;generalize(whole k n).1=A at*;generalize(whole k n).2=e at*;have fr:=wU<|A*2^j;generalize floorRoot _=r at*;have b:k.least<= -100:=by rcases hk with rfl|rfl<;>decide
 have hm:A*2^j≠0:=rR h0 (uh<|eZ _);have w_:r≠0:=by
  rintro rfl
  have:=fr.2
  lia
 have lo:(A.log2+j)/2<=r.log2:=by
  apply(qG w_).mpr;apply rK;intro c;have c1:(r+1)*(r+1)<=2^((A.log2+j)/2)*2^((A.log2+j)/2):=rQ om om;rw[<-jw] at c1;have c2:2^((A.log2+j)/2+(A.log2+j)/2)<=2^(A.log2+j):=ka (by lia)<|by lia
  have c3:2^(A.log2+j)<=A*2^j:=by rw[jw];exact CG _<|sW h0
  have:=fr.2;omega
 have hi:2*r.log2<=A.log2+j:=by
  have c1:=Mb w_;have c2:=Hv (rR w_ w_) fr.1;have c3:A*2^j<2^(A.log2+1+j):=by rw[jw];exact CH log2_lt<|eZ _
  have c4:=(wo hm).mpr c3
  lia
 obtain⟨x,hx⟩:=Vk hk aM (r*r !=A*2^j) (m:=r) (e:=(e-j)/2) (.inr<|by lia);rw[hx];have:=Mf w_ (by lia) hx;exact⟨x,J,this.1,(by lia)⟩
theorem GA(hk:bV k){c r:ag}(h0:(whole k r).1≠0)(h1: -1<=iN k r)(h2:(whole k c).1=0\/iN k c<=2):∃x,div k c r=L x:=by
 have e1:div k c r=if(whole k r).1=0 then ah else fE k _ _ _ _:=J
 rw[e1,ay h0];apply Vk hk;unfold iN at h1 h2;generalize(whole k c).1=A at*;generalize(whole k r).1=B at*;by_cases hA:A=0
 ·left
  rw[hA,Am,Yu]
 ·by_cases hq:A*2^120/B=0
  ·exact .inl hq
  have c1:A*2^120/B<2^(A.log2+1+120-B.log2):=by
   rw[FL<|by lia];have l1:A*2^120<2^(A.log2+1+120):=by rw[jw];exact CH log2_lt<|eZ _
   have l2:2^(A.log2+1+120)<=2^(A.log2+1+120-B.log2)*2^B.log2:=by
    rw[<-jw];exact ka (by lia) om
   have l3:2^_*2^B.log2<=2^(A.log2+1+120-B.log2)*B:=Yr _<|sW h0;omega
  have c2:=(wo hq).mpr c1;rcases h2 with z|z<;>omega
theorem unit_some(hk:bV k){n:ag}(hn:norm k q=L n)(h1:below k (oP k 2) n=aM)(h2:below k n (oP k (-2))=aM)(h3:below k (oP k 64) n=aM):∃u,unit k q=L u:=by
 have hl:k.least<=6:=by rcases hk with rfl|rfl<;>decide
 have mD:=hn;unfold norm at mD
 cases ea:mul k q.w q.w with
 |none=>rw[ea] at mD;cases mD
 |some a=>
  rw[ea] at mD
  cases eb:ma k q.x q.x a with
  |none=>simp only[Option.bind_some,eb] at mD;cases mD
  |some b=>
   simp[Option.bind_some,eb] at mD
   cases ec:ma k q.y q.y b with
   |none=>simp only[ec] at mD;cases mD
   |some c=>
    simp[ec] at mD;have ed:=mD;obtain⟨a1,a2⟩:=sq_mag ea;obtain⟨b1,b2⟩:=Me a1 hl eb;obtain⟨c1,c2⟩:=Me b1 hl ec;obtain⟨d1,d2⟩:=Me c1 hl ed;obtain⟨n0,n1⟩:=mag_ge_of hk d1 h2;have n2:=mag_le_of hk d1 n0 h1;have kz:∀v,((whole k v).1≠0->3<=iN k v->(whole k n).1≠0/\6<=iN k n)->(whole k v).1=0\/iN k v<=2:=λv h=>by
     by_cases z:(whole k v).1=0
     ·exact .inl z
     ·right
      apply rK
      lia
    have lw:=kz q.w λz y=>d2 (.inl<|c2 (.inl<|b2 (.inl<|a2 z hl y)));have lx:=kz q.x λz y=>d2<|.inl (c2<|.inl (b2<|.inr ⟨z,y⟩));have ly:=kz q.y λz y=>d2<|.inl (c2<|.inr ⟨z,y⟩);have lz:=kz q.z λz y=>d2<|.inr ⟨z,y⟩;obtain⟨r,er,r0,r1⟩:=root_some hk d1 n0 n2 n1;obtain⟨w,ew⟩:=GA hk r0 r1 lw;obtain⟨x,ex⟩:=GA hk r0 r1 lx;obtain⟨y,ey⟩:=GA hk r0 r1 ly;obtain⟨z,ez⟩:=GA hk r0 r1 lz;refine⟨⟨w,x,y,z⟩,?_⟩;unfold unit;rw[hn];simp[Option.bind_some,h2,h3,Ci,La,xa,er,ew,ex,ey,ez,wt]
end
end Bw
namespace Bw
open Rb49
def bf{α β:Type}(f:α->au β):af α->au (af β)
 |[]=>L []
 |a::l=>(f a).bind λb=>(bf f l).map λbs=>b::bs
def dY{α β:Type}(f:β->α->au β):β->af α->au β
 |s,[]=>L s
 |s,a::l=>(f s a).bind λs'=>dY f s' l
theorem xh(f:α->au β):∀l,l.mapM f=bf f l
 |[]=>by simp[bf]
 |a::l=>by
  rw[List.mapM_cons,xh f l];show _=(f a).bind λb=>(bf f l).map λbs=>b::bs
  cases f a with
  |none=>rfl
  |some b=>cases bf f l<;>rfl
theorem Lg(f:β->α->au β):∀l s,l.foldlM f s=dY f s l
 |[],s=>by simp[dY]
 |a::l,s=>by
  rw[List.foldlM_cons];unfold dY
  cases f s a with
  |none=>rfl
  |some b=>exact Lg f l b
section
variable{α β γ:Type}
theorem BV(h:f a=ah):∀{l:af α},a∈l->bf f l=ah
 |b::l,hm=>by
  unfold bf;rcases List.mem_cons.mp hm with rfl|hm
  ·rw[h];rfl
  ·rw[BV h hm]
   cases f b<;>rfl
theorem IX:∀{l:af α},(∀a∈l,f a=g a)->bf f l=bf g l
 |[],_=>rfl
 |a::l,h=>by
  unfold bf;rw[h a iB,IX λb hb=>h b<|gD _ hb]
theorem iQ:∀{l:af α}{bs:af β},bf f l=L bs->bs.length=l.length
 |[],bs,h=>by cases h;rfl
 |a::l,bs,h=>by
  unfold bf at h
  cases e1:f a with
  |none=>rw[e1] at h;cases h
  |some b=>
   rw[e1] at h
   cases e2:bf f l with
   |none=>rw[e2] at h;cases h
   |some cs=>
    rw[e2] at h
    cases h
    show cs.length+1=_;rw[iQ e2];rfl
theorem VT:∀l m,bf f (l++m)=(bf f l).bind λx=>(bf f m).map λy=>x++y
 |[],m=>by cases e:bf f m<;>simp[bf,e]
 |a::l,m=>by
  show(f a).bind (λb=>(bf f<|l++m).map λbs=>b::bs)=_;rw[VT l m];show _=((f a).bind λb=>(bf f l).map λbs=>b::bs).bind _
  cases f a<;>cases bf f l<;>cases bf f m<;>rfl
theorem VU(g:α->β):∀l,bf f (l.map g)=bf (λa=>f<|g a) l
 |[]=>rfl
 |a::l=>by
  show(f _).bind _=_;rw[VU g l];rfl
theorem l9:∀l,bf (λa=>L<|f a) l=L (l.map f)
 |[]=>rfl
 |a::l=>by
  unfold bf;rw[l9 l];rfl
theorem NU(f:α->au β)(g:α->β->au γ):∀l,bf (λa=>(f a).bind<|g a) l=(bf f l).bind λbs=>bf (λp=>g p.1 p.2)<|l.zip bs
 |[]=>rfl
 |a::l=>by
  show((f a).bind _).bind _=((f a).bind λb=>(bf f l).map λbs=>b::bs).bind _;rw[NU f g l]
  cases f a with
  |none=>rfl
  |some b=>
   cases bf f l with
   |none=>
    show(g a b).bind _=ah
    cases g a b<;>rfl
   |some bs=>rfl
theorem RU(g:α->au β)(t:γ->β->au γ):∀l s,dY (λs a=>(g a).bind<|t s) s l=(bf g l).bind λbs=>dY t s bs
 |[],s=>rfl
 |a::l,s=>by
  show((g a).bind<|t s).bind _=((g a).bind λb=>(bf g l).map λbs=>b::bs).bind _
  cases g a with
  |none=>rfl
  |some b=>
   show(t s b).bind _=_
   cases e:t s b with
   |none=>
    cases bf g l with
    |none=>rfl
    |some bs=>
     show _=dY t s _;unfold dY;rw[e];rfl
   |some s'=>
    show dY _ s' l=_;rw[RU g t l s']
    cases bf g l with
    |none=>rfl
    |some bs=>
     show _=dY t s _
     conv=>rhs;unfold dY
     rw[e];rfl
def gN(d:α)(cN:ag)(t:α->β->au α)(s:af α×ag)(x:β):au<|af α×ag:=(t (s.1.getD (s.2%cN) d) x).map λy=>(s.1.set (s.2%cN) y,s.2+1)
theorem S4(d:α)(hL:0<cN)(t:α->β->au α):∀l ls n,ls.length=cN->bf (λj=>dY (λa x=>t a x.1) (ls.getD j d) ((l.zipIdx n).filter λx=>x.2%cN==j)) (iC cN)=(dY (gN d cN t) (ls,n) l).map λs=>s.1
 |[],ls,n,h=>by
  show bf (λj=>L<|ls.getD j d) _=L ls;rw[l9]
  congr 1
  refine X3 (by simp[h]) λi h1 h2=>?_;simp[h2]
 |x::l,ls,n,h=>by
  have hj:n%cN<cN:=rP _ hL;show _=((gN d cN t _ x).bind λs=>dY _ s l).map _;rw[List.zipIdx_cons]
  cases e:t (ls.getD _ d) x with
  |none=>
   have e1:gN d cN t (ls,n) x=ah:=by
    unfold gN;rw[e];rfl
   rw[e1];refine BV ?_<|List.mem_range.mpr hj;rw[X5<|by simp];unfold dY;rw[e];rfl
  |some y=>
   have e1:gN d cN t (ls,n) x=L (ls.set (n%cN) y,n+1):=by
    unfold gN;rw[e];rfl
   rw[e1];show _=(dY _ (ls.set _ y,n+1) l).map _;rw[<-S4 d hL t l (ls.set _ y) _ (by rw[pk];exact h)];refine IX λj hj'=>?_;by_cases c:n%cN=j
   ·subst c
    rw[X5<|by simp];show(t (ls.getD _ d) x).bind _=_;rw[e];simp[m7,h,hj]
   ·rw[List.filter_cons_of_neg<|by simpa using c]
    simp[m7,Ah c]
theorem S3(d:α)(cN:ag)(t:α->β->au α):∀l s s',dY (gN d cN t) s l=L s'->s'.1.length=s.1.length
 |[],s,s',h=>by cases h;rfl
 |x::l,s,s',h=>by
  unfold dY at h
  cases e:gN d cN t s x with
  |none=>rw[e] at h;cases h
  |some u=>
   rw[e] at h;rw[S3 d cN t l u s' h];unfold gN at e
   cases e2:t (s.1.getD (s.2%cN) d) x with
   |none=>rw[e2] at e;cases e
   |some y=>
    rw[e2] at e
    cases e
    simp
def ku(d:α)(cN:ag)(t:α->β->au α)(l:af β):au<|af α:=(dY (gN d cN t) (Aj cN d,0) l).map λs=>s.1
theorem Jt(k:aB)(hL:0<k.lanes)(d:α)(t:α->β->au α)(f:α->α->au α)(l:af β):B6 k d t f l=(ku d k.lanes t l).bind λs=>(jX f (nk k.lanes) s).map λr=>r.headD d:=by
 unfold B6 ku;rw[xh];have e:=S4 d hL t l (Aj k.lanes d) 0<|by simp
 rw[<-e]
 congr 1
 refine IX λj hj=>?_;have hj:=List.mem_range.mp hj;rw[Lg];simp[hj]
theorem lanesP_split(d:α)(cN:ag)(g:γ->au β)(t:α->β->au α)(l:af γ):ku d cN (λa x=>(g x).bind<|t a) l=(bf g l).bind λbs=>ku d cN t bs:=by
 unfold ku;have e:gN d cN (λa x=>(g x).bind<|t a)=λs x=>(g x).bind<|gN d cN t s:=by
  funext s x
  show((g x).bind (t<|s.1.getD (s.2%cN) d)).map _=_
  cases g x<;>rfl
 rw[e,RU g _ l]
 cases bf g l<;>rfl
theorem Fj(k:aB)(hL:0<k.lanes)(d:α)(g:γ->au β)(t:α->β->au α)(f:α->α->au α)(l:af γ):B6 k d (λa x=>(g x).bind<|t a) f l=(bf g l).bind λbs=>B6 k d t f bs:=by
 rw[Jt k hL,lanesP_split]
 cases bf g l with
 |none=>rfl
 |some bs=>exact(Jt k hL d t f bs).symm
theorem AX(d:α)(f:α->α->au α)(n:ag)(h:l.length=2^(n+1)):jX f (n+1) l=(bf (λj=>f (l.getD j d)<|l.getD (j+2^n) d) (iC<|2^n)).bind (jX f n):=by
 have e:(l.take<|2^n).zip (l.drop<|2^n)=(iC<|2^n).map λj=>(l.getD j d,l.getD (j+2^n) d):=by
  refine X3 (by simp;lia) λi h1 h2=>?_;have h2:=by simpa using h2
  simp[m7];constructor
  ·rw[yi om];rfl
  ·rw[yi om,Option.getD_some]
   congr 1
   lia
 show Ao _ _=_;rw[xh,e,VU]
end
end Bw
namespace Bw
open Rb49
def jc:af ag->af ag->af ag->af P
 |x::xs,y::ys,z::zs=>⟨x,y,z⟩::jc xs ys zs
 |_,_,_=>[]
theorem Pf:∀l,jc (l.map (·.x)) (l.map (·.y)) (l.map (·.z))=l
 |[]=>rfl
 |p::l=>by
  show⟨p.x,p.y,p.z⟩::jc _ _ _=_;rw[Pf l]
theorem R8(ls:af P)(j:ag):(ls.map (·.x)).getD j 0=(ls.getD j default).x:=by
 simp[m7,m8]
 cases ls[j]? <;>rfl
theorem R_(ls:af P)(j:ag):(ls.map (·.y)).getD j 0=(ls.getD j default).y:=by
 simp[m7,m8]
 cases ls[j]? <;>rfl
theorem Sa(ls:af P)(j:ag):(ls.map (·.z)).getD j 0=(ls.getD j default).z:=by
 simp[m7,m8]
 cases ls[j]? <;>rfl
def vS{α β γ δ:Type}(f:α->β->γ->δ)(x:au α)(y:au β)(z:au γ):au δ:=x.bind λa=>y.bind λb=>z.map λc=>f a b c
theorem JB{f:α->β->γ->δ}:vS f x ah z=ah:=by cases x<;>rfl
theorem JC{f:α->β->γ->δ}:vS f x y ah=ah:=by cases x<;>cases y<;>rfl
theorem S2(k:aB)(cN:ag):∀l ls n,(dY (gN default cN<|iZ k) (ls,n) l).map (λs=>s.1)=vS jc ((dY (gN 0 cN<|add k) (ls.map (·.x),n) (l.map (·.x))).map λs=>s.1)
                                  ((dY (gN 0 cN<|add k) (ls.map (·.y),n) (l.map (·.y))).map λs=>s.1) ((dY (gN 0 cN<|add k) (ls.map (·.z),n) (l.map (·.z))).map λs=>s.1)
 |[],ls,n=>by
  show L ls=L (jc _ _ _);rw[Pf]
 |p::l,ls,n=>by
  show((gN default cN _ _ p).bind _).map _=vS jc (((gN 0 cN _ (ls.map (·.x),n) p.x).bind _).map _) (((gN 0 cN _ (ls.map (·.y),n) p.y).bind _).map _) (((gN 0 cN _ (ls.map (·.z),n) p.z).bind _).map _);unfold gN;simp only[R8,R_,Sa];show(((made _ _ _).map _).bind _).map _=_
  cases hx:add k (ls.getD _ default).x p.x with
  |none=>rfl
  |some a=>
   cases hy:add k (ls.getD _ default).y p.y with
   |none=>exact JB.symm
   |some b=>
    cases hz:add k (ls.getD _ default).z p.z with
    |none=>exact JC.symm
    |some c=>
     have ih:=S2 k cN l (ls.set (n%cN) ⟨a,b,c⟩)<|n+1;simp[List.map_set] at ih;exact ih
theorem lanesP3(k:aB)(cN:ag)(l:af P):ku default cN (iZ k) l=vS jc (ku 0 cN (add k) (l.map (·.x))) (ku 0 cN (add k) (l.map (·.y))) (ku 0 cN (add k) (l.map (·.z))):=by
 have:=S2 k cN l (Aj cN default) 0;simp[List.map_replicate] at this;exact this
theorem Pg:∀{X Y Z:af ag},X.length=Y.length->Y.length=Z.length->(jc X Y Z).map (·.x)=X/\(jc X Y Z).map (·.y)=Y/\(jc X Y Z).map (·.z)=Z/\(jc X Y Z).length=X.length
 |[],[],[],_,_=>⟨J,J,J,J⟩
 |x::X,y::Y,z::Z,h1,h2=>by
  obtain⟨a,b,c,d⟩:=Pg (by simpa using h1)<|by simpa using h2
  refine⟨?_,?_,?_,?_⟩
  ·show x::(jc X Y Z).map _=_;rw[a]
  ·show y::(jc X Y Z).map _=_;rw[b]
  ·show z::(jc X Y Z).map _=_;rw[c]
  ·show(jc X Y Z).length+1=_;rw[d];rfl
 |[],_::_,_,h,_=>by simp at h
 |_::_,[],_,h,_=>by simp at h
 |_::_,_::_,[],_,h=>by simp at h
 |[],[],_::_,_,h=>by simp at h
theorem VQ(f g h:α->au ag):∀l,bf (λa=>made (f a) (g a)<|h a) l=vS jc (bf f l) (bf g l) (bf h l)
 |[]=>rfl
 |a::l=>by
  show(made _ _<|h a).bind _=vS jc ((f a).bind _) ((g a).bind _) ((h a).bind _);rw[VQ f g h l]
  cases hx:f a with
  |none=>rfl
  |some x=>
   cases hy:g a with
   |none=>exact JB.symm
   |some y=>
    cases hz:h a with
    |none=>exact JC.symm
    |some z=>
     cases bf f l with
     |none=>rfl
     |some X=>
      cases bf g l with
      |none=>rfl
      |some Y=>cases bf h l<;>rfl
theorem GR(f:α->α->au α):∀n{l r:af α},l.length=2^n->jX f n l=L r->r.length=1
 |0,l,r,h,e=>by cases e;exact h
 |n+1,l,r,h,e=>by
  cases l with
  |nil=>exact absurd h (by have:=CJ<|n+1;simp;lia)
  |cons d l=>
   rw[AX d f n h] at e
   cases e1:bf (λj=>f _ _) _ with
   |none=>rw[e1] at e;cases e
   |some m=>
    rw[e1] at e;exact GR f n (by rw[iQ e1];simp) e
theorem RV(k:aB):∀n{l:af P},l.length=2^n->jX (iZ k) n l=vS jc (jX (add k) n (l.map (·.x))) (jX (add k) n (l.map (·.y))) (jX (add k) n (l.map (·.z)))
 |0,l,h=>by
  show L l=L (jc _ _ _);rw[Pf]
 |n+1,l,h=>by
  rw[AX default _ n h,AX 0 _ n<|by simpa using h,AX 0 _ n<|by simpa using h,AX 0 _ n<|by simpa using h];simp only[R8,R_,Sa];have e:=VQ (λj=>add k (l.getD j default).x (l.getD (j+2^n) default).x) (λj=>add k (l.getD j default).y (l.getD (j+2^n) default).y) (λj=>add k (l.getD j default).z (l.getD (j+2^n) default).z) (iC<|2^n);show(bf (λj=>made _ _ _) _).bind _=_;rw[e]
  cases ex:bf (λj=>add k (l.getD j default).x (l.getD _ default).x) _ with
  |none=>rfl
  |some X=>
   cases ey:bf (λj=>add k (l.getD j default).y (l.getD _ default).y) _ with
   |none=>exact JB.symm
   |some Y=>
    cases ez:bf (λj=>add k (l.getD j default).z (l.getD _ default).z) _ with
    |none=>exact JC.symm
    |some Z=>
     have lx:X.length=2^n:=by rw[iQ ex];simp
     have ly:Y.length=2^n:=by rw[iQ ey];simp
     have lz:Z.length=2^n:=by rw[iQ ez];simp
     obtain⟨z1,z2,z3,z4⟩:=Pg (X:=X) (Y:=Y) (Z:=Z) (by lia) (by lia);show jX _ n (jc X Y Z)=vS jc (jX _ n X) (jX _ n Y) (jX _ n Z);rw[RV k n<|by lia,z1,z2,z3]
theorem xf(h:bV k):k.lanes=2^nk k.lanes/\0<k.lanes/\k.lanes<=16:=by rcases h with rfl|rfl<;>decide
def dE(k:aB)(t:ag->β->au ag)(l:af β):au ag:=(ku 0 k.lanes t l).bind λs=>(jX (add k) (nk k.lanes) s).map λr=>r.headD 0
theorem OK(h:bV k)(t:ag->β->au ag)(l:af β):B6 k 0 t (add k) l=dE k t l:=Jt k (xf h).2.1 0 t _ l
theorem L5{t:α->β->au α}(h:ku d cN t l=L s):s.length=cN:=by
 unfold ku at h
 cases e:dY _ _ l with
 |none=>rw[e] at h;cases h
 |some u=>
  rw[e] at h
  cases h
  rw[S3 d cN t l _ _ e];simp
theorem WJ(h:bV k)(l:af P):B6 k default (iZ k) (iZ k) l=made (dE k (add k) (l.map (·.x))) (dE k (add k) (l.map (·.y))) (dE k (add k) (l.map (·.z))):=by
 obtain⟨hp,h0,_⟩:=xf h;rw[Jt k h0,lanesP3];unfold dE
 cases ex:ku 0 k.lanes _ (l.map (·.x)) with
 |none=>rfl
 |some X=>
  cases ey:ku 0 k.lanes _ (l.map (·.y)) with
  |none=>exact(JB).symm
  |some Y=>
   cases ez:ku 0 k.lanes _ (l.map (·.z)) with
   |none=>exact(JC).symm
   |some Z=>
    have lx:=L5 ex;have ly:=L5 ey;have lz:=L5 ez;obtain⟨z1,z2,z3,z4⟩:=Pg (X:=X) (Y:=Y) (Z:=Z) (by lia) (by lia);show(jX _ _<|jc X Y Z).map _=made ((jX _ _ X).map _) ((jX _ _ Y).map _) ((jX _ _ Z).map _);rw[RV k _<|by lia,z1,z2,z3]
    cases fx:jX _ _ X with
    |none=>rfl
    |some A=>
     cases fy:jX _ _ Y with
     |none=>rfl
     |some B=>
      cases fz:jX _ _ Z with
      |none=>rfl
      |some C=>
       have a1:=GR _ _ (by lia) fx;have a2:=GR _ _ (by lia) fy;have a3:=GR _ _ (by lia) fz
       match A,B,C,a1,a2,a3 with
       |[a],[b],[c],_,_,_=>rfl
end Bw
namespace Bw
open Rb49
section
variable(k:aB)
structure rN where
 at_:P
 turn:Q
 v:P
 o:P
def ir(b:fu):au rN:=(pB k b).bind λv=>(pE k b).map λo=>⟨b.at_,b.turn,v,o⟩
structure rT where
 Df:P
 at_:P
 v:P
def gc(m:rN)(r:P):au rT:=(turned k m.turn r).bind λa=>(iZ k m.at_ a).bind λp=>(cross k m.o a).bind λc=>(iZ k m.v c).map λu=>⟨a,p,u⟩
theorem Ik(b:fu)(r:P):pointOf k b r=(ir k b).bind λm=>(gc k m r).map λp=>(p.Df,p.at_,p.v):=by
 unfold pointOf ir gc
 cases pB k b with
 |none=>cases turned k b.turn r with
  |none=>rfl
  |some a=>show(iZ k b.at_ a).bind _=ah;cases iZ k b.at_ a<;>rfl
 |some v=>
  cases pE k b with
  |none=>cases turned k b.turn r with
   |none=>rfl
   |some a=>show(iZ k b.at_ a).bind _=ah;cases iZ k b.at_ a<;>rfl
  |some o=>
   show _=((turned k b.turn r).bind _).map _
   cases turned k b.turn r with
   |none=>rfl
   |some a=>
    show(iZ k b.at_ a).bind _=((iZ k b.at_ a).bind _).map _
    cases iZ k b.at_ a with
    |none=>rfl
    |some p=>
     show(cross k o a).bind _=((cross k o a).bind _).map _
     cases cross k o a with
     |none=>rfl
     |some c=>show(iZ k v c).map _=((iZ k v c).map _).map _;cases iZ k v c<;>rfl
structure iF where
 a:rT
 b:rT
 JF:P
 bH:ag
def qE(s:ke)(m1 m2:rN):au iF:=(gc k m1 s.from_).bind λa=>(gc k m2 s.to).bind λb=>(xj k b.at_ a.at_).bind λd=>((dot k d d).bind<|root k).map λl=>⟨a,b,d,l⟩
def j4(w:World)(s:ke):au iF:=(ir k<|w.body s.one).bind λm1=>(ir k<|w.body s.other).bind λm2=>qE k s m1 m2
def kF(s:ke)(p:iF):au ag:=sub k p.bH s.rest
def lY(s:ke)(p:iF):au<|au Push:=if isZero k p.bH=ao then L ah else
 (parted k p.JF p.bH).bind λe=>((xj k p.b.v p.a.v).bind λv=>dot k e v).bind λu=>(mul k s.damp u).bind λc=>((kF k s p).bind λx=>nms k s.stiff x c).bind λf=>(times k f e).map λq=>L ⟨p.a.Df,p.b.Df,q⟩
theorem longer_eq(w:World)(s:ke):longer k w s=(j4 k w s).bind (kF k s):=by
 unfold longer j4;rw[Ik,Ik]
 cases ir k _ with
 |none=>rfl
 |some m1=>
  cases ir k _ with
  |none=>show((gc k m1 s.from_).map _).bind _=ah;cases gc k m1 s.from_<;>rfl
  |some m2=>
   show((gc k m1 s.from_).map _).bind _=((gc k m1 s.from_).bind _).bind _
   cases gc k m1 s.from_ with
   |none=>rfl
   |some a=>
    show((gc k m2 s.to).map _).bind _=((gc k m2 s.to).bind _).bind _
    cases gc k m2 s.to with
    |none=>rfl
    |some b=>
     show(xj k b.at_ a.at_).bind _=((xj k b.at_ a.at_).bind _).bind _
     cases xj k b.at_ a.at_ with
     |none=>rfl
     |some d=>
      show(dot k d d).bind _=(((dot k d d).bind _).map _).bind _
      cases dot k d d with
      |none=>rfl
      |some n=>show(root k n).bind _=((root k n).map _).bind _;cases root k n<;>rfl
theorem pushOf_eq(w:World)(s:ke):pushOf k w s=(j4 k w s).bind (lY k s):=by
 unfold pushOf j4;rw[Ik,Ik]
 cases ir k _ with
 |none=>rfl
 |some m1=>
  cases ir k _ with
  |none=>show((gc k m1 s.from_).map _).bind _=ah;cases gc k m1 s.from_<;>rfl
  |some m2=>
   show((gc k m1 s.from_).map _).bind _=((gc k m1 s.from_).bind _).bind _
   cases gc k m1 s.from_ with
   |none=>rfl
   |some a=>
    show((gc k m2 s.to).map _).bind _=((gc k m2 s.to).bind _).bind _
    cases gc k m2 s.to with
    |none=>rfl
    |some b=>
     show(xj k b.at_ a.at_).bind _=((xj k b.at_ a.at_).bind _).bind _
     cases xj k b.at_ a.at_ with
     |none=>rfl
     |some d=>
      show(dot k d d).bind _=(((dot k d d).bind _).map _).bind _
      cases dot k d d with
      |none=>rfl
      |some n=>
       show(root k n).bind _=((root k n).map _).bind _
       cases root k n with
       |none=>rfl
       |some l=>
        show(if isZero k l=ao then L ah else _)=lY k s ⟨a,b,d,l⟩;unfold lY strength kF
        split
        ·rfl
        ·show(parted k d l).bind _=(parted k d l).bind _
         cases parted k d l with
         |none=>rfl
         |some e=>
          cases xj k b.v a.v with
          |none=>rfl
          |some v=>
           show(dot k e v).bind _=(dot k e v).bind _
           cases dot k e v with
           |none=>rfl
           |some u=>
            show(sub k l s.rest).bind _=(mul k s.damp u).bind _
            cases sub k l s.rest with
            |none=>cases mul k s.damp u<;>rfl
            |some x=>cases mul k s.damp u<;>rfl
def lT(dt:F)(b:fu):au fu:=(along k dt b.force b.momentum).bind λm=>((pB k {b with momentum:=m}).bind λv=>along k dt v b.at_).bind λp=>
 ((mul k dt<|lN k).bind λh=>(pE k b).bind λo=>times k h o).bind λg=>((turns k ⟨one k,g.x,g.y,g.z⟩ b.turn).bind<|unit k).map λq=>{b with momentum:=m,at_:=p,turn:=q}
theorem move_eq(e:mul k dt (lN k)=L h)(b:fu):((forced k dt b).bind λc=>moved k dt h c)=lT k dt b:=by
 unfold forced moved lT;rw[e]
 cases along k dt b.force b.momentum with
 |none=>rfl
 |some m=>
  show(pB k {b with momentum:=m}).bind _=((pB k {b with momentum:=m}).bind _).bind _
  cases pB k {b with momentum:=m} with
  |none=>rfl
  |some v=>
   show(along k dt v b.at_).bind _=(along k dt v b.at_).bind _
   cases along k dt v b.at_ with
   |none=>rfl
   |some p=>
    show(pE k b).bind _=((pE k b).bind _).bind _
    cases pE k b with
    |none=>rfl
    |some o=>
     show(times k h o).bind _=(times k h o).bind _
     cases times k h o with
     |none=>rfl
     |some a=>
      show(turns k ⟨one k,a.x,a.y,a.z⟩ b.turn).bind _=((turns k ⟨one k,a.x,a.y,a.z⟩ b.turn).bind _).map _
      cases turns k ⟨one k,a.x,a.y,a.z⟩ b.turn with
      |none=>rfl
      |some t=>cases unit k t<;>rfl
def j5(dt:F)(w:World):au<|af fu:=((bf (j4 k w) w.springs).bind λsp=>bf (λx=>lY k x.1 x.2)<|w.springs.zip sp).bind λps=>
 (dY (λbs x=>done k dt bs x.1 x.2) w.bodies<|w.springs.zip ps).bind λbs=>bf (λb=>(lT k dt b).map<|kept k w.walls) bs
theorem step_eq(e:mul k dt (lN k)=L h)(w:World):step1 k dt w=(j5 k dt w).map λl=>{w with bodies:=l}:=by
 unfold step1 j5;rw[e];have e1:=funext (pushOf_eq k w);rw[xh,e1,NU _ _]
 cases(bf _ w.springs).bind λbs=>bf (λp:ke×iF=>lY k p.1 p.2) _ with
 |none=>rfl
 |some ps=>
  show Ao (List.foldlM _ _ _) _=(Ao (dY _ _ _) _).map _;rw[Lg]
  cases dY (λbs x=>done k dt bs x.1 x.2) w.bodies (w.springs.zip ps) with
  |none=>rfl
  |some bs=>
   show Km _ _=Km _ _;rw[xh]
   congr 1
   refine IX λb _=>?_;rw[<-move_eq k e b]
   cases forced k dt b<;>rfl
def fj(a:ag)(p:ag×ag):au ag:=ma k p.1 p.2 a
def wQ(b:fu):au<|ag×ag:=((dot k b.momentum b.momentum).bind λn=>mul k b.inverse n).map λt=>(lN k,t)
def wO(b:fu):au<|ag×ag:=((pE k b).bind λo=>dot k b.spin o).map λt=>(lN k,t)
def lK(s:ke)(p:iF):au<|ag×ag:=(kF k s p).bind λx=>(mul k (lN k) s.stiff).bind λc=>(mul k x x).map λt=>(c,t)
def iV(b:fu):au P:=(moment k b.at_ b.momentum).bind λm=>iZ k m b.spin
end
section
variable{k:aB}(hk:bV k)
include hk
theorem momenta_eq(w:World):Mj k w=made (dE k (add k) (w.bodies.map λb=>b.momentum.x)) (dE k (add k) (w.bodies.map λb=>b.momentum.y)) (dE k (add k) (w.bodies.map λb=>b.momentum.z)):=by
 have e:=Fj k (xf hk).2.1 default (λb=>L b.momentum) (iZ k) (iZ k) w.bodies;refine Eq.trans e ?_;rw[l9];show B6 k default _ _ (w.bodies.map λb=>b.momentum)=_;rw[WJ hk];simp[PN];rfl
theorem spins_eq(w:World):spins k w=(bf (iV k) w.bodies).bind λl=>made (dE k (add k) (l.map (·.x))) (dE k (add k) (l.map (·.y))) (dE k (add k) (l.map (·.z))):=by
 unfold spins;have e0:(λa b=>(moment k b.at_ b.momentum).bind λm=>(iZ k m b.spin).bind λt=>iZ k a t)=λa b=>(iV k b).bind<|iZ k a:=by
  funext a b
  unfold iV
  cases moment k b.at_ b.momentum<;>rfl
 rw[e0,Fj k (xf hk).2.1]
 cases bf _ w.bodies with
 |none=>rfl
 |some l=>exact WJ hk l
theorem ways_eq(w:World):ways k w=(bf (wQ k) w.bodies).bind (dE k<|fj k):=by
 unfold ways;have e0:(λa b=>(dot k b.momentum b.momentum).bind λn=>(mul k b.inverse n).bind λt=>ma k (lN k) t a)=λa b=>(wQ k b).bind<|fj k a:=by
  funext a b
  unfold wQ fj
  cases dot k b.momentum b.momentum with
  |none=>rfl
  |some n=>show(mul k b.inverse n).bind _=((mul k b.inverse n).map _).bind _;cases mul k b.inverse n<;>rfl
 rw[e0,Fj k (xf hk).2.1]
 cases bf _ w.bodies with
 |none=>rfl
 |some l=>exact OK hk _ l
theorem whirls_eq(w:World):JH k w=(bf (wO k) w.bodies).bind (dE k<|fj k):=by
 unfold JH;have e0:(λa b=>(pE k b).bind λo=>(dot k b.spin o).bind λt=>ma k (lN k) t a)=λa b=>(wO k b).bind<|fj k a:=by
  funext a b
  unfold wO fj
  cases pE k b with
  |none=>rfl
  |some o=>show(dot k b.spin o).bind _=((dot k b.spin o).map _).bind _;cases dot k b.spin o<;>rfl
 rw[e0,Fj k (xf hk).2.1]
 cases bf _ w.bodies with
 |none=>rfl
 |some l=>exact OK hk _ l
theorem tensions_eq(w:World):Jz k w=((bf (j4 k w) w.springs).bind λsp=>bf (λx:ke×iF=>lK k x.1 x.2)<|w.springs.zip sp).bind (dE k<|fj k):=by
 unfold Jz;have e0:(λa(s:ke)=>(longer k w s).bind λx=>(mul k x x).bind λt=>(mul k (lN k) s.stiff).bind λc=>ma k c t a)=λa s=>((j4 k w s).bind<|lK k s).bind<|fj k a:=by
  funext a s
  rw[longer_eq];unfold lK fj
  cases j4 k w s with
  |none=>rfl
  |some p=>
   show(kF k s p).bind _=((kF k s p).bind _).bind _
   cases kF k s p with
   |none=>rfl
   |some x=>
    show(mul k x x).bind _=((mul k (lN k) s.stiff).bind _).bind _
    cases mul k (lN k) s.stiff with
    |none=>cases mul k x x<;>rfl
    |some c=>show _=((mul k x x).map _).bind _;cases mul k x x<;>rfl
 rw[e0,Fj k (xf hk).2.1,NU (j4 k w)<|lK k]
 cases(bf (j4 k w) w.springs).bind λbs=>bf (λp:ke×iF=>lK k p.1 p.2) (w.springs.zip bs) with
 |none=>rfl
 |some l=>exact OK hk _ l
omit hk in
theorem sums_eq(w:World):sums k w=(ways k w).bind λa=>(JH k w).bind λb=>(Jz k w).bind λc=>((add k a b).bind λd=>add k d c).bind λe=>(Mj k w).bind λm=>(spins k w).map λl=>m.list++(l.list++[a,b,c,e]):=by
 unfold sums
 cases Mj k w with
 |none=>simp
 |some m=>
 cases spins k w with
 |none=>simp
 |some l=>
 cases ways k w with
 |none=>rfl
 |some a=>
 cases JH k w with
 |none=>rfl
 |some b=>
 cases Jz k w with
 |none=>rfl
 |some c=>
 show(add k a b).bind _=((add k a b).bind _).bind _
 cases add k a b with
 |none=>rfl
 |some d=>show(add k d c).map _=(add k d c).bind _;cases add k d c<;>rfl
end
end Bw
namespace Bw
open Rb49
variable{k:aB}
theorem half_some(hk:bV k)(hx:cV k x):∃h,mul k x (lN k)=L h:=by
 unfold mul;have hh:whole k (lN k)=(2^k.frac,-1-(k.frac:ae)):=by rcases hk with rfl|rfl<;>decide
 rw[hh];have e:=Np k (dO k x !=dO k (lN k)) (whole k x).1 ((whole k x).2-1) k.frac;rw[show(whole k x).2+_=(whole k x).2-1-k.frac by lia,e];by_cases h0:(whole k x).1=0
 ·rw[h0]
  exact⟨_,aK J⟩
 have h1:=O9 k x;have h3:=Xg hx.2 hk.expo;obtain⟨n1,n2,n3⟩:=Ec k ((whole k x).2-1) aM h0;have hl:=(wo h0).mpr h1;have ht:k.least+1<=aO k:=by rcases hk with rfl|rfl<;>decide
 have d5:∀n q,k.least<=q->q<=aO k-> ∃z,dr k (dO k x !=dO k (lN k)) n q=L z:=λn q h1 h2=>by
  unfold dr
  split
  ·exact⟨_,J⟩
  ·rw[ay λz=>absurd ((Fm k h1).mp z)<|by lia]
   exact⟨_,J⟩
 have hp:dz k (whole k x).1 ((whole k x).2-1)+1<=aO k:=by
  unfold dz;omega
 rw[vE k _ _ aM h0]
 split
 ·exact d5 _ _ om hp
 ·exact d5 _ _ n3 om
def zg(j:aB):ag:=(2^j.expo-1)*2^j.frac
theorem Ri{a:ag}(h:(whole k a).1≠0):decide ((bg k a).1<0)=dO k a:=by
 rw[Gx];rcases oU _ with⟨e,q⟩|⟨e,q⟩<;>rw[q,e]
 ·exact dF<|by lia
 ·exact hX om
theorem other_zero{a:ag}(h:(whole k a).1=0):other k j a=fL j (dO k a):=by
 unfold other;rw[h];rfl
theorem other_some(hj:bV j){a:ag}(h:(whole k a).1≠0)(e:fh j (bg k a).1 (bg k a).2=L p):p=bg j (other k j a)/\cV j (other k j a):=by
 have h0:(bg k a).1≠0:=by
  have:=sC k a
  lia
 obtain⟨r1,r2⟩:=EL j (bg k a).2 hj.expo hj.frac h0;rw[Ri h,sC,yO h0] at r1 r2;rw[yO h0,r1] at e;unfold other
 cases er:fE j _ (whole k a).1 (whole k a).2 aM with
 |none=>rw[er] at e;cases e
 |some x=>
  rw[er] at e
  cases e
  exact⟨J,r2 x er⟩
theorem other_none(hj:bV j){a:ag}(h:(whole k a).1≠0)(e:fh j (bg k a).1 (bg k a).2=ah):other k j a=fL j (dO k a)+zg j:=by
 have h0:(bg k a).1≠0:=by
  have:=sC k a;omega
 obtain⟨r1,r2⟩:=EL j (bg k a).2 hj.expo hj.frac h0;rw[Ri h,sC,yO h0] at r1;rw[yO h0,r1] at e;unfold other zg
 cases er:fE j _ (whole k a).1 (whole k a).2 aM with
 |none=>rfl
 |some x=>rw[er] at e;cases e
theorem numbers_inj(h:numbers b=numbers c):b=c:=by
 obtain⟨i,⟨m1,m2,m3⟩,⟨a1,a2,a3⟩,⟨t1,t2,t3,t4⟩,⟨p1,p2,p3⟩,⟨s1,s2,s3⟩,f1,f2,f3⟩:=b;simp only[numbers,ow,Q.list,List.cons_append,List.nil_append,wj] at h;sleep 3;obtain⟨e1,e2,e3,e4,e5,e6,e7,e8,e9,e10,e11,e12,e13,e14,e15,e16,e17,e18,e19,e20,_⟩:=h;sleep 4;subst e1 e2 e3 e4 e5 e6 e7 e8 e9 e10 e11 e12 e13 e14 e15 e16 e17 e18 e19 e20;rfl
theorem Tf:∀{l m:af fu},l.map numbers=m.map numbers->l=m
 |[],[],_=>rfl
 |[],_::_,h=>by cases h
 |_::_,[],h=>by cases h
 |b::l,c::m,h=>by
  simp[kK,wj] at h;rw[numbers_inj h.1,Tf h.2]
def jt(k:aB)(dt:F)(w:World):ag->af fu->au (af fu)
 |0,bs=>L bs
 |n+1,bs=>(j5 k dt {w with bodies:=bs}).bind<|jt k dt w n
theorem WA(e:mul k dt (lN k)=L h):∀n w,steps k dt n w=(jt k dt w n w.bodies).map λl=>{w with bodies:=l}
 |0,w=>rfl
 |n+1,w=>by
  show(step1 k dt w).bind _=((j5 k dt w).bind _).map _;rw[step_eq k e w]
  cases j5 k dt w with
  |none=>rfl
  |some l=>
   show steps k dt n {w with bodies:=l}=(jt k dt w n l).map _;rw[WA e n];have:=λn l=>by
    have A0:∀n m,jt k dt {w with bodies:=l} n m=jt k dt w n m:=λn=>by
     induction n with
     |zero=>intro m;rfl
     |succ n ih=>
      intro m;show(j5 k dt {w with bodies:=m}).bind _=(j5 k dt {w with bodies:=m}).bind _
      congr 1
      funext x
      exact ih x
    exact A0 n l
   rw[this]
theorem WB(e:j5 k dt {w with bodies:=bs}=L bs):∀n,jt k dt w n bs=L bs
 |0=>rfl
 |n+1=>by
  show(j5 k dt {w with bodies:=bs}).bind _=_;rw[e];exact WB e n
end Bw
namespace Bw
open Rb49
theorem ZT(h:yo sh f (p::r)=L raw):∃g c t cs,raw=c::cs/\yn sh (p::r)=L (c,t)/\yo sh g t=L cs:=by
 cases f with
 |zero=>cases h
 |succ f=>
  unfold yo at h
  cases e:yn sh _ with
  |none=>rw[e] at h;cases h
  |some x=>
   obtain⟨c,t⟩:=x;rw[e] at h;simp only at h
   cases e2:yo sh f t with
   |none=>rw[e2] at h;cases h
   |some cs=>
    rw[e2] at h
    cases h
    exact⟨f,c,t,cs,J,J,e2⟩
theorem ZU(h:yo sh f []=L raw):raw=[]:=by
 cases f<;>cases h<;>rfl
theorem ZQ(hs:sh p=L (n,0))(h:yn sh (p::r)=L (c,t)):n<=r.length/\c=[p::r.take n]/\t=r.drop n:=by
 unfold yn at h;simp only[hs,YB] at h
 split at h
 ·cases h
 ·cases h
  exact⟨(by lia),J,J⟩
theorem ZS(hs:sh p=L (n,1))(h:yn sh (p::r)=L (c,t)):∃l,r=r.take n++((l.length:ae)::(l++t))/\c=[p::r.take n,l]/\n<=r.length:=by
 unfold yn at h;simp only[hs,YB] at h
 split at h
 ·cases h
 ·rename_i hn
  cases e:r.drop n with
  |nil=>rw[e] at h;cases h
  |cons m q=>
   rw[e] at h;simp only[PyFlat.row] at h;by_cases hm:0<=m/\m.toNat<=q.length
   ·rw[aK hm] at h
    cases h
    refine⟨q.take m.toNat,?_,J,(by lia)⟩;rw[PU m.toNat q,kJ];have:(min m.toNat q.length:ag)=m:=by lia
    rw[this,<-e,PU]
   ·rw[ay hm] at h
    cases h
def gR(o:ae):Prop:=0<=o/\o<=3
def gT(z:ae):Prop:= -2147483648<=z/\z<=2147483647
def eV(o:ae)(z:ae):Prop:=0<=z/\z.toNat<2*(AF o).sign
inductive mY:ae->af ae->af (af ae)->af ae->Prop
 |begin_ o t:gR o->mY 0 (o::t) [[0,o]] t
 |body o (l t):gR o->(∀z∈l,eV o z)->l.length=20->mY 1 (o::20::(l++t)) [[1,o],l] t
 |spring (o i j) (l t):gR o->gT i->gT j->(∀z∈l,eV o z)->l.length=9->mY 2 (o::i::j::9::(l++t)) [[2,o,i,j],l] t
 |walls o (l t):gR o->(∀z∈l,eV o z)->l.length=6->mY 3 (o::6::(l++t)) [[3,o],l] t
 |step (o n d) t:gR o->gT n->eV o d->mY 4 (o::n::d::t) [[4,o,n,d]] t
 |get (o a n b) t:gR o->gT a->gT n->gT b->mY 5 (o::a::n::b::t) [[5,o,a,n,b]] t
 |put (o a b) (l t):gR o->gT a->gT b->(∀z∈l,eV o z)->l.length<=4096->mY 6 (o::a::b::l.length::(l++t)) [[6,o,a,b],l] t
 |sums o t:gR o->mY 7 (o::t) [[7,o]] t
 |box o t:gR o->mY 8 (o::t) [[8,o]] t
 |slow (o d m) t:gR o->eV o d->gT m->mY 9 (o::d::m::t) [[9,o,d,m]] t
 |points (o a n) (l t):gR o->gT a->gT n->(∀z∈l,eV o z)->l.length=3->mY 10 (o::a::n::3::(l++t)) [[10,o,a,n],l] t
 |frame (o a n) t:gR o->gT a->gT n->mY 11 (o::a::n::t) [[11,o,a,n]] t
theorem qh(h:r_ o=ao):gR o:=by
 unfold r_ Rb49Neutral.upTo at h;simpa [gR] using h
theorem o4(h:mw z=ao):gT z:=by
 unfold mw at h;simp at h;unfold gT
 lia
theorem Ms(h:Kz z (AH o)=ao):eV o z:=by
 unfold Kz at h;simp at h;refine⟨h.1,?_⟩;have e:2*(AF o).sign=2^AH o:=by
  unfold AF AH
  split<;>decide
 have:((2^AH o:ag):ae)=2^AH o:=by simp
 lia
theorem Dj(h:AD o l=ao):∀z∈l,eV o z:=by
 unfold AD at h;rw[PH] at h;exactλz hz=>Ms<|h z hz
set_option maxHeartbeats 1000000 in
theorem ZP{p:ae}(h:yn Aq (p::r)=L (c,t))(a:Qt (wu c)=ao):mY p r c t:=by
 have yR:∀{n:ag},Aq p=L (n,0)->n<=r.length/\c=[p::r.take n]/\t=r.drop n:=λhs=>ZQ hs h;have EN:∀{n:ag},Aq p=L (n,1)-> ∃l,r=r.take n++((l.length:ae)::(l++t))/\c=[p::r.take n,l]/\n<=r.length:=λhs=>ZS hs h;have ZW:p=0\/p=1\/p=2\/p=3\/p=4\/p=5\/p=6\/p=7\/p=8\/p=9\/p=10\/p=11:=by
  by_cases hp:p=0\/p=1\/p=2\/p=3\/p=4\/p=5\/p=6\/p=7\/p=8\/p=9\/p=10\/p=11
  ·exact hp
  ·have e:Aq p=ah:=by
    simp only[not_or] at hp;obtain⟨h0,h1,h2,h3,h4,h5,h6,h7,h8,h9,sG,qL⟩:=hp;exact(ay h0).trans<|(ay h1).trans ((ay h2).trans<|(ay h3).trans ((ay h4).trans<|(ay h5).trans ((ay h6).trans<|(ay h7).trans ((ay h8).trans<|(ay h9).trans ((ay sG).trans<|ay qL)))))
   unfold yn at h;simp only[e] at h
   cases h
 rcases ZW with rfl|rfl|rfl|rfl|rfl|rfl|rfl|rfl|rfl|rfl|rfl|rfl
 ·obtain⟨hn,rfl,rfl⟩:=yR (n:=1) J
  match r,hn with
  |o::r,_=>exact .begin_ o r<|qh a
 ·obtain⟨l,hr,rfl,hn⟩:=EN (n:=1) J
  match r,hn,hr with
  |o::r,_,hr=>
   simp only[List.take_succ_cons,m9,List.cons_append,List.nil_append,wj,Fn] at hr;replace a:(r_ o&&(AD o l&&decide (l.length=20)))=ao:=a;simp only[eX,kl] at a;have e:=a.2.2;subst hr;rw[show((l.length:ag):ae)=20 by omega];exact .body o l t (qh a.1) (Dj a.2.1) e
 ·obtain⟨l,hr,rfl,hn⟩:=EN (n:=3) J
  match r,hn,hr with
  |o::i::j::r,_,hr=>
   simp only[List.take_succ_cons,m9,List.cons_append,List.nil_append,wj,Fn] at hr;replace a:(r_ o&&(mw i&&(mw j&&(AD o l&&decide (l.length=9)))))=ao:=a;simp only[eX,kl] at a;have e:=a.2.2.2.2;subst hr;rw[show((l.length:ag):ae)=9 by omega];exact .spring o i j l t (qh a.1) (o4 a.2.1) (o4 a.2.2.1) (Dj a.2.2.2.1) e
 ·obtain⟨l,hr,rfl,hn⟩:=EN (n:=1) J
  match r,hn,hr with
  |o::r,_,hr=>
   simp only[List.take_succ_cons,m9,List.cons_append,List.nil_append,wj,Fn] at hr;replace a:(r_ o&&(AD o l&&decide (l.length=6)))=ao:=a;simp only[eX,kl] at a;have e:=a.2.2;subst hr;rw[show((l.length:ag):ae)=6 by omega];exact .walls o l t (qh a.1) (Dj a.2.1) e
 ·obtain⟨hn,rfl,rfl⟩:=yR (n:=3) J
  match r,hn with
  |o::n::d::r,_=>
   replace a:(r_ o&&(mw n&&Kz d (AH o)))=ao:=a;simp only[eX,kl] at a;exact .step o n d r (qh a.1) (o4 a.2.1)<|Ms a.2.2
 ·obtain⟨hn,rfl,rfl⟩:=yR (n:=4) J
  match r,hn with
  |o::f::n::b::r,_=>
   replace a:(r_ o&&(mw f&&(mw n&&mw b)))=ao:=a;simp only[eX,kl] at a;exact .get o f n b r (qh a.1) (o4 a.2.1) (o4 a.2.2.1)<|o4 a.2.2.2
 ·obtain⟨l,hr,rfl,hn⟩:=EN (n:=3) J
  match r,hn,hr with
  |o::f::b::r,_,hr=>
   simp only[List.take_succ_cons,m9,List.cons_append,List.nil_append,wj,Fn] at hr;replace a:(r_ o&&(mw f&&(mw (l.length:ae)&&(mw b&&(AD o l&&YT l (l.length:ae) 0 4096)))))=ao:=a;simp only[eX,kl] at a;obtain⟨a1,a2,a3,a4,a5,a6⟩:=a;subst hr;refine .put o f b l t (qh a1) (o4 a2) (o4 a4) (Dj a5) ?_;unfold YT at a6;have a6:=dG a6
   split at a6<;>omega
 ·obtain⟨hn,rfl,rfl⟩:=yR (n:=1) J
  match r,hn with
  |o::r,_=>exact .sums o r<|qh a
 ·obtain⟨hn,rfl,rfl⟩:=yR (n:=1) J
  match r,hn with
  |o::r,_=>exact .box o r<|qh a
 ·obtain⟨hn,rfl,rfl⟩:=yR (n:=3) J
  match r,hn with
  |o::d::m::r,_=>
   replace a:(r_ o&&(Kz d (AH o)&&mw m))=ao:=a;simp only[eX,kl] at a;exact .slow o d m r (qh a.1) (Ms a.2.1)<|o4 a.2.2
 ·obtain⟨l,hr,rfl,hn⟩:=EN (n:=3) J
  match r,hn,hr with
  |o::f::n::r,_,hr=>
   simp only[List.take_succ_cons,m9,List.cons_append,List.nil_append,wj,Fn] at hr;replace a:(r_ o&&(mw f&&(mw n&&(AD o l&&decide (l.length=3)))))=ao:=a;simp only[eX,kl] at a;have e:=a.2.2.2.2;subst hr;rw[show((l.length:ag):ae)=3 by omega];exact .points o f n l t (qh a.1) (o4 a.2.1) (o4 a.2.2.1) (Dj a.2.2.2.1) e
 ·obtain⟨hn,rfl,rfl⟩:=yR (n:=3) J
  match r,hn with
  |o::f::n::r,_=>
   replace a:(r_ o&&(mw f&&mw n))=ao:=a;simp only[eX,kl] at a;exact .frame o f n r (qh a.1) (o4 a.2.1)<|o4 a.2.2
theorem Zk(h:Kr l=ao):∃raw,yo Aq l.length l=L raw/\raw.length<=300/\(∀c∈raw,Qt (wu c)=ao)/\AE [] (raw.map wu)=ao/\FY l=P9 (P8 yE Rb49Neutral.start<|raw.map wu):=by
 unfold Kr at h
 cases e:yo Aq l.length l with
 |none=>rw[e] at h;cases h
 |some raw=>
  rw[e] at h;simp[eX,Rb49Neutral.asked,PyFlat.atMost,kl,List.all_map,PH] at h;refine⟨raw,J,h.1.1.2,λc hc=>h.2.2.2.1 c hc,h.2.2.2.2,?_⟩;unfold FY PyRb49.calls;rw[e]
end Bw
namespace Bw
open Rb49
section
variable{α β:Type}
theorem Le(f:β->α->au β):∀l m s,dY f s (l++m)=(dY f s l).bind λs'=>dY f s' m
 |[],m,s=>rfl
 |a::l,m,s=>by
  show(f s a).bind _=((f s a).bind _).bind _
  cases f s a with
  |none=>rfl
  |some s'=>exact Le f l m s'
theorem take_snoc{l:af α}(h:l[j]? =L x):l.take (j+1)=l.take j++[x]:=by rw[Yd,h];rfl
theorem Rm{l:af α}(h:l[j]? =L x):l.drop j=x::l.drop (j+1):=by
 have hj:j<l.length:=by
  rcases FO j l.length with z|z
  ·exact z
  ·rw[Cr z] at h;cases h
 rw[List.drop_eq_getElem_cons hj];rw[yi hj] at h
 cases h
 rfl
theorem Lf{l:af α}{s s':β}(h:l[j]? =L x)(e:dY f s (l.take j)=L s'):dY f s (l.take<|j+1)=f s' x:=by
 rw[take_snoc h,Le,e];show(f s' x).bind _=_
 cases f s' x<;>rfl
theorem RS{x:α}{s s':β}(h:l[j]? =L x)(e:dY f s (l.take j)=L s')(n:f s' x=ah):dY f s l=ah:=by
 have:l=l.take j++(x::l.drop (j+1)):=by rw[<-Rm h,PU]
 rw[this,Le,e];show(f s' x).bind _=ah;rw[n];rfl
theorem IY{l:af α}{j:ag}{x:α}(h:l[j]? =L x)(n:f x=ah):bf f l=ah:=BV n<|j' h
end
theorem Rk(h:done k dt bs s p=L gG):gG.length=bs.length:=by
 unfold done at h
 cases p with
 |none=>cases h;rfl
 |some p=>
  simp only at h
  cases e1:pushedBack k dt p.from_ p.push (bs.getD s.one default) with
  |none=>rw[e1] at h;cases h
  |some a=>
   rw[e1] at h
   cases e2:pushed k dt p.to p.push (bs.getD s.other default) with
   |none=>rw[e2] at h;cases h
   |some b=>rw[e2] at h;cases h;simp
@[elab_as_elim]theorem cz{l:af α}(h:l.length=n+1){P:af α->Prop}(f:∀a t,t.length=n->P (a::t)):P l:=by
 cases l with
 |nil=>cases h
 |cons a t=>exact f a t<|Nat.succ.inj h
inductive L6:af ag->Prop
 |mk:∀a0 a1 a2 a3 a4 a5,L6 [a0,a1,a2,a3,a4,a5]
theorem S_{l:af ag}(h:l.length=6):L6 l:=by
 iterate 6 refine cz h λ_ l h=>?_
 rw[oo h];exact .mk ..
inductive L9:af ag->Prop
 |mk:∀a0 a1 a2 a3 a4 a5 a6 a7 a8,L9 [a0,a1,a2,a3,a4,a5,a6,a7,a8]
theorem Ta{l:af ag}(h:l.length=9):L9 l:=by
 iterate 9 refine cz h λ_ l h=>?_
 rw[oo h];exact .mk ..
inductive PD:af ag->Prop
 |mk:∀a0 a1 a2 a3 a4 a5 a6 a7 a8 a9 jU pF pG pH pI pJ pK pL pM sj,PD [a0,a1,a2,a3,a4,a5,a6,a7,a8,a9,jU,pF,pG,pH,pI,pJ,pK,pL,pM,sj]
theorem L_{l:af ag}(h:l.length=20):PD l:=by
 iterate 20 refine cz h λ_ l h=>?_
 rw[oo h];exact .mk ..
end Bw
namespace Bw
open Rb49
variable{k:aB}
def og(k:aB)(q:Q):df:=match norm k q with
 |none=>aM
 |some n=>!below k n (oP k (-2))&& !below k (oP k 2) n
theorem usable_unit(hk:bV k)(h:og k q=ao):∃u,unit k q=L u:=by
 unfold og at h
 cases e:norm k q with
 |none=>rw[e] at h;cases h
 |some n=>
  rw[e] at h;simp[eX,Bool.not_eq_true'] at h;refine unit_some hk e h.2 h.1 ?_;have h2:=h.2;have w:Ab k (oP k 2)<=Ab k (oP k 64):=by rcases hk with rfl|rfl<;>decide+kernel
  have:=vd h2;exact hX<|by lia
theorem ZM{l:af ag}(n:l.length=20)(h:l.all (jH k)=aM):Dl k l=ah:=by
 cases L_ n
 exact ay λz=>by rw[z.1] at h;cases h
theorem ZN{a0 a1 a2 a3 a4 a5 a6 a7 a8 a9 jU pF pG pH pI pJ pK pL pM sj:ag}(h:[a0,a1,a2,a3,a4,a5,a6,a7,a8,a9,jU,pF,pG,pH,pI,pJ,pK,pL,pM,sj].all (jH k)=ao):Dl k [a0,a1,a2,a3,a4,a5,a6,a7,a8,a9,jU,pF,pG,pH,pI,pJ,pK,pL,pM,sj]=if([a0,a1,a2,a3].any (λv=>below k v 0)|| !og k ⟨a7,a8,a9,jU⟩)=ao then ah else(unit k ⟨a7,a8,a9,jU⟩).map λq=>⟨a0,⟨a1,a2,a3⟩,⟨a4,a5,a6⟩,q,⟨pF,pG,pH⟩,⟨pI,pJ,pK⟩,pL,pM,sj⟩:=by
 unfold Dl;simp only;have ea:[a0,a1,a2,a3].all (λv=>!below k v 0)= ![a0,a1,a2,a3].any λv=>below k v 0:=by simp
 rw[ea]
 cases eb:[a0,a1,a2,a3].any (λv=>below k v 0) with
 |true=>rw[ay (λz=>nomatch z.2),Xy,aK J]
 |false=>
  rw[aK ⟨h,J⟩];unfold og unit
  cases en:norm k ⟨a7,a8,a9,jU⟩ with
  |none=>rfl
  |some n=>
   simp only[Option.bind_some,tU]
   cases e4:below k _ n with
   |true=>rw[aK J,aK<|by simp]
   |false=>
    rw[ay dc]
    cases e1:below k n _ with
    |true=>rw[aK<|.inl J,aK dc];rfl
    |false=>rw[ay (c:=_=ao) dc]
theorem spring_bad{l:af ag}(n:l.length=9)(h:l.all (jH k)=aM):Jo k i j l=ah:=by
 cases Ta n
 exact ay λz=>by rw[z.1] at h;cases h
theorem spring_eq{i j a b c d e f s t r:ag}(h:[a,b,c,d,e,f,s,t,r].all (jH k)=ao):Jo k i j [a,b,c,d,e,f,s,t,r]=if [s,t,r].any (λv=>below k v 0)=ao then ah else L ⟨i,j,⟨a,b,c⟩,⟨d,e,f⟩,s,t,r⟩:=by
 unfold Jo;simp only;have ea:[s,t,r].all (λv=>!below k v 0)= ![s,t,r].any λv=>below k v 0:=by simp
 rw[ea]
 cases [s,t,r].any (λv=>below k v 0) with
 |true=>rw[ay (λz=>nomatch z.2),aK J]
 |false=>rw[aK ⟨h,J⟩];rfl
theorem walls_bad{l:af ag}(n:l.length=6)(h:l.all (jH k)=aM):JE k l=ah:=by
 cases S_ n
 exact ay λz=>by rw[z.1] at h;cases h
theorem walls_eq{a b c d e f:ag}(h:[a,b,c,d,e,f].all (jH k)=ao):JE k [a,b,c,d,e,f]=if(iC 3).any (λj=>below k ([a,b,c,d,e,f].getD (j+3) 0)<|[a,b,c,d,e,f].getD j 0)=ao then ah else L (⟨a,b,c⟩,⟨d,e,f⟩):=by
 unfold JE;simp only;have er:(iC 3).any (λj=>below k ([a,b,c,d,e,f].getD (j+3) 0)<|[a,b,c,d,e,f].getD j 0)=(below k d a||(below k e b||below k f c)):=by
  show(below k d a||(below k e b||(below k f c||aM)))=_;rw[Xw]
 rw[er]
 cases below k d a<;>cases below k e b<;>cases below k f c<;>simp[h]
def fI(w:World)(first n:ae):df:=decide (0<=first)&&(decide (0<=n)&&decide (first+n<=w.bodies.length))
theorem tM(w:World)(first n:ae):these w first n=if fI w first n=ao then L ((w.bodies.drop first.toNat).take n.toNat) else ah:=by
 unfold these fI;by_cases h:first<0\/n<0\/w.bodies.length<first+n
 ·rw[aK h,ay]
  simp[eX,kl];omega
 ·rw[ay h,aK]
  simp[eX,kl];omega
def qZ(bs:af fu)(first rG:ag)(l:af F)(j:ag):af fu:=bs.zipIdx.map λx=>if first<=x.2/\x.2<first+j then Xh x.1 rG (l.getD (x.2-first) 0) else x.1
theorem U2:(qZ bs first rG l j).length=bs.length:=by simp[qZ]
theorem Io:(qZ bs first rG l j)[i]? =(bs[i]?).map λb=>if first<=i/\i<first+j then Xh b rG (l.getD (i-first) 0) else b:=by
 unfold qZ;rw[m8,List.getElem?_zipIdx]
 cases bs[i]? <;>simp
theorem putJ_zero:qZ bs first rG l 0=bs:=by
 refine X4 λi=>?_;rw[Io]
 cases bs[i]? with
 |none=>rfl
 |some b=>simp only[wt];rw[ay<|by lia]
theorem putJ_at:(qZ bs first rG l j)[first+j]? =bs[first+j]? :=by
 rw[Io]
 cases bs[first+j]? with
 |none=>rfl
 |some b=>simp only[wt];rw[ay<|by lia]
theorem putJ_succ(hb:bs[first+j]? =L b)(hx:l[j]? =L x):qZ bs first rG l (j+1)=(qZ bs first rG l j).set (first+j) (Xh b rG x):=by
 refine X4 λi=>?_;rw[List.getElem?_set,Io];by_cases e:first+j=i
 ·subst e
  have hl:=(List.getElem?_eq_some_iff.mp hb).1;rw[aK J,aK (by rw[U2];exact hl),hb];simp only[wt];rw[aK<|by lia,Yi,Cq,hx];rfl
 ·rw[ay e,Io]
  cases bs[i]? with
  |none=>rfl
  |some c=>
   simp[wt];by_cases q:first<=i/\i<first+j
   ·rw[aK q,aK<|by lia]
   ·rw[ay q,ay<|by lia]
theorem Jq(hl:∀bs gG,j5 k dt {w with bodies:=bs}=L gG->gG.length=bs.length):∀n bs gG,jt k dt w n bs=L gG->gG.length=bs.length
 |0,bs,gG,h=>by cases h;rfl
 |n+1,bs,gG,h=>by
  have h:(j5 k dt {w with bodies:=bs}).bind _=L gG:=h
  cases e:j5 k dt {w with bodies:=bs} with
  |none=>rw[e] at h;cases h
  |some m=>
   rw[e] at h;rw[Jq hl n m gG h,hl _ _ e]
theorem UO(hb:w.bodies.length<=4096)(c:Call):(cI k (L w) c).2.out.length<=28672:=by
 have ht:∀{first n:ae}{l:af fu},these w first n=L l->l.length<=4096:=λ{first n l}h=>by
  rw[tM] at h
  split at h
  ·cases h
   rw[kJ,Cu];omega
  ·cases h
 cases c with
 |begin_=>exact eM _
 |body l=>simp[cI];split<;>(try split)<;>exact eM _
 |spring i j l=>simp[cI];repeat (first|split|exact eM _)
 |walls l=>simp[cI];split<;>exact eM _
 |step n dt=>simp[cI];repeat (first|split|exact eM _)
 |get first n rG=>
  simp[cI]
  split
  ·exact eM _
  ·rename_i l h
   split
   ·exact eM _
   ·have:=ht h
    rw[ie]
    lia
 |put first n rG l=>simp[cI];repeat (first|split|exact eM _)
 |sums=>
  simp[cI]
  split
  ·exact eM _
  ·rename_i l h
   have:l.length=10:=by
    unfold sums at h
    cases e1:Mj k w with
    |none=>rw[e1] at h;cases h
    |some m=>
    cases e2:spins k w with
    |none=>rw[e1,e2] at h;cases h
    |some s=>
    cases e3:ways k w with
    |none=>rw[e1,e2,e3] at h;cases h
    |some a=>
    cases e4:JH k w with
    |none=>rw[e1,e2,e3,e4] at h;cases h
    |some b=>
    cases e5:Jz k w with
    |none=>rw[e1,e2,e3,e4,e5] at h;cases h
    |some c=>
    rw[e1,e2,e3,e4,e5] at h;simp[Option.bind_some] at h
    cases e6:add k a b with
    |none=>rw[e6] at h;cases h
    |some d=>
    rw[e6] at h;simp only[Option.bind_some] at h
    cases e7:add k d c with
    |none=>rw[e7] at h;cases h
    |some e=>rw[e7] at h;cases h;rfl
   show l.length<=_
   lia
 |box=>
  simp[cI]
  split
  ·exact eM _
  ·show 6<=28672
   decide
 |slow D5 most=>
  simp[cI]
  split
  ·exact eM _
  ·rename_i hm
   split
   ·exact eM _
   ·split
    ·exact eM _
    ·show(List.take _ _).length<=_
     rw[kJ];omega
 |points first n r=>
  simp[cI]
  split
  ·rename_i l x y z h
   split
   ·exact eM _
   ·split
    ·exact eM _
    ·rename_i ps hp
     rw[xh] at hp;have l1:=iQ hp;have l2:=ht h;have:∀ps:af P,(ps.flatMap ow).length=3*ps.length:=λps=>by
      induction ps with
      |nil=>rfl
      |cons p ps ih=>rw[J8,iT,ih];show 3+_=3*(ps.length+1);lia
     rw[this]
     lia
  ·exact eM _
 |frame first n=>
  simp only[cI]
  split
  ·exact eM _
  ·rename_i l h
   have l2:=ht h;have:∀bs:af fu,(bs.flatMap λb=>(b.at_.list++b.turn.list).map (other k<|otherKind k)).length=7*bs.length:=λbs=>by
    induction bs with
    |nil=>rfl
    |cons p bs ih=>rw[J8,iT,ih];show 7+_=7*(bs.length+1);lia
   rw[this]
   lia
end Bw
namespace Bw
open Rb49
abbrev NS:=ae->Rb49.St
def gP(s:NS)(o:ae)(q:Call):NS×af ae:=((λj=>if j=o then(cI (AF o) (s o) q).1 else s j),(cI (AF o) (s o) q).2.value::Rb49Neutral.ints (cI (AF o) (s o) q).2.out)
inductive fk:ae->af ae->af ae->ae->Call->Prop
 |begin_ o t:gR o->fk 0 (o::t) t o .begin_
 |body o (l t):gR o->(∀z∈l,eV o z)->l.length=20->fk 1 (o::20::(l++t)) t o (.body<|AG l)
 |spring (o i j) (l t):gR o->gT i->gT j->(∀z∈l,eV o z)->l.length=9->fk 2 (o::i::j::9::(l++t)) t o (.spring i j<|AG l)
 |walls o (l t):gR o->(∀z∈l,eV o z)->l.length=6->fk 3 (o::6::(l++t)) t o (.walls<|AG l)
 |step (o n d) t:gR o->gT n->eV o d->fk 4 (o::n::d::t) t o (.step n d.toNat)
 |get (o a n b) t:gR o->gT a->gT n->gT b->fk 5 (o::a::n::b::t) t o (.get a n b)
 |put (o a b) (l t):gR o->gT a->gT b->(∀z∈l,eV o z)->l.length<=4096->fk 6 (o::a::b::l.length::(l++t)) t o (.put a l.length b<|AG l)
 |sums o t:gR o->fk 7 (o::t) t o .sums
 |box o t:gR o->fk 8 (o::t) t o .box
 |slow (o d m) t:gR o->eV o d->gT m->fk 9 (o::d::m::t) t o (.slow d.toNat m)
 |points (o a n) (l t):gR o->gT a->gT n->(∀z∈l,eV o z)->l.length=3->fk 10 (o::a::n::3::(l++t)) t o (.points a n<|AG l)
 |frame (o a n) t:gR o->gT a->gT n->fk 11 (o::a::n::t) t o (.frame a n)
theorem qd{s:NS}{c:af (af ae)}(h:Rb49Neutral.callOf c=L (o,q)):yE s c=gP s o q:=by
 unfold yE gP;rw[h]
theorem iK{r:af (af<|af ae)}(h:AE b (((p::o::x)::y)::r)=ao):(p=0\/o∈b)/\AE (o::b) r=ao:=by
 have h:(_&&AE _ r)=ao:=h;rw[eX,Fy] at h;refine⟨h.1.imp (λz=>eq_of_beq z) λz=>?_,h.2⟩;simpa using z
theorem Bv(l:af ae):(AG l).length=l.length:=by simp[AG]
theorem ZV(h:mY p r c t){cs:af (af<|af ae)}(g:AE b (wu c::cs)=ao):∃o q,fk p r t o q/\(p=0\/o∈b)/\AE (o::b) cs=ao/\ ∀s:NS,yE s (wu c)=gP s o q:=by
 cases h with
 |begin_ o t h1=>exact⟨o,_,.begin_ o t h1,(iK g).1,(iK g).2,λs=>qd J⟩
 |body o l t h1 h2 h3=>exact⟨o,_,.body o l t h1 h2 h3,(iK g).1,(iK g).2,λs=>qd (by show(if l.length=20 then _ else _)=_;rw[aK h3])⟩
 |spring o i j l t h1 h2 h3 h4 h5=>exact⟨o,_,.spring o i j l t h1 h2 h3 h4 h5,(iK g).1,(iK g).2,λs=>qd (by show(if l.length=9 then _ else _)=_;rw[aK h5])⟩
 |walls o l t h1 h2 h3=>exact⟨o,_,.walls o l t h1 h2 h3,(iK g).1,(iK g).2,λs=>qd (by show(if l.length=6 then _ else _)=_;rw[aK h3])⟩
 |step o n d t h1 h2 h3=>exact⟨o,_,.step o n d t h1 h2 h3,(iK g).1,(iK g).2,λs=>qd J⟩
 |get o a n b t h1 h2 h3 h4=>exact⟨o,_,.get o a n b t h1 h2 h3 h4,(iK g).1,(iK g).2,λs=>qd J⟩
 |put o a b l t h1 h2 h3 h4 h5=>exact⟨o,_,.put o a b l t h1 h2 h3 h4 h5,(iK g).1,(iK g).2,λs=>qd J⟩
 |sums o t h1=>exact⟨o,_,.sums o t h1,(iK g).1,(iK g).2,λs=>qd J⟩
 |box o t h1=>exact⟨o,_,.box o t h1,(iK g).1,(iK g).2,λs=>qd J⟩
 |slow o d m t h1 h2 h3=>exact⟨o,_,.slow o d m t h1 h2 h3,(iK g).1,(iK g).2,λs=>qd J⟩
 |points o a n l t h1 h2 h3 h4 h5=>exact⟨o,_,.points o a n l t h1 h2 h3 h4 h5,(iK g).1,(iK g).2,λs=>qd (by show(if l.length=3 then _ else _)=_;rw[aK h5])⟩
 |frame o a n t h1 h2 h3=>exact⟨o,_,.frame o a n t h1 h2 h3,(iK g).1,(iK g).2,λs=>qd J⟩
structure rM(rest:af ae)(n:ag)(b:af ae)(s:NS)(vR:af ae):Prop where
 ex:∃f raw,yo Aq f rest=L raw/\raw.length<=n/\(∀c∈raw,Qt (wu c)=ao)/\AE b (raw.map wu)=ao/\vR=P9 (P8 yE s<|raw.map wu)
theorem rM.start(h:Kr l=ao):rM l 300 [] (λ_=>ah)<|FY l:=by
 obtain⟨raw,h1,h2,h3,h4,h5⟩:=Zk h;exact⟨_,raw,h1,h2,h3,h4,h5⟩
theorem rM.done(h:rM [] n b s vR):vR=[]:=by
 obtain⟨f,raw,h1,h2,h3,h4,h5⟩:=h;rw[ZU h1] at h5;exact h5
theorem rM.turn(h:rM (p::r) n b s vR):∃m t o q JA,n=m+1/\fk p r t o q/\(p=0\/o∈b)/\rM t m (o::b) (gP s o q).1 JA/\vR=((gP s o q).2.length:ae)::((gP s o q).2++JA):=by
 sleep 3;obtain⟨f,raw,h1,h2,h3,h4,h5⟩:=h;sleep 4;sleep 3;obtain⟨g,c,t,cs,rfl,e1,e2⟩:=ZT h1;sleep 4;sleep 3;obtain⟨o,q,a1,a2,a3,a4⟩:=ZV (ZP e1<|h3 c iB) h4;sleep 4;have h2:cs.length+1<=n:=h2;refine⟨n-1,t,o,q,_,(by lia),a1,a2,⟨g,cs,e2,om,λd hd=>h3 d<|gD _ hd,a3,J⟩,?_⟩;rw[h5];show P9 ((yE s _).2::P8 yE (yE s _).1 _)=_;rw[a4];rfl
end Bw
namespace Bw
open Rb49
variable{k:aB}{w:World}
theorem Ww(h:Dl k l=ah):cI k (L w) (.body l)=(L w,⟨-3,[]⟩):=by simp[cI,h]
theorem st_body_f(h:Dl k l=L b)(m:4096<=w.bodies.length):cI k (L w) (.body l)=(L w,⟨-1,[]⟩):=by simp only[cI,h];exact aK m
theorem st_body_s(h:Dl k l=L b)(m:¬4096<=w.bodies.length):cI k (L w) (.body l)=(L {w with bodies:=w.bodies++[b]},⟨w.bodies.length,[]⟩):=by simp only[cI,h];exact ay m
def nN(w:World)(i:ae):df:=decide (0<=i)&&decide (i<w.bodies.length)
theorem st_spring_r(h:(!nN w i||(!nN w j||decide (i=j)))=ao):cI k (L w) (.spring i j l)=(L w,⟨-2,[]⟩):=by
 simp only[cI];rw[aK];unfold nN at h;simp[Fy,Bool.not_eq_true',Xt,Gz,kl] at h
 lia
theorem Sj(h:(!nN w i||(!nN w j||decide (i=j)))=aM):0<=i/\i<w.bodies.length/\0<=j/\j<w.bodies.length/\i≠j:=by
 unfold nN at h;simp[Ad,JQ,eX,Gz,kl] at h;grind
theorem st_spring_i(h:(!nN w i||(!nN w j||decide (i=j)))=aM):cI k (L w) (.spring i j l)=(match Jo k i.toNat j.toNat l with
 |none=>(L w,⟨-3,[]⟩)
 |some p=>if MOSTSPRINGS<=w.springs.length then(L w,⟨-1,[]⟩) else(L {w with springs:=w.springs++[p]},⟨w.springs.length,[]⟩)):=by
 have:=Sj h;simp[cI];rw[ay<|by grind]
 cases Jo k i.toNat j.toNat l<;>rfl
theorem Wx(h:JE k l=ah):cI k (L w) (.walls l)=(L w,⟨-3,[]⟩):=by simp[cI,h]
theorem Wy(h:JE k l=L p):cI k (L w) (.walls l)=(L {w with walls:=L p},⟨0,[]⟩):=by simp[cI,h]
theorem st_step_r(h:n<0\/1000000<n):cI k (L w) (.step n dt)=(L w,⟨-2,[]⟩):=by simp only[cI];rw[aK h]
theorem st_step_n(h:¬(n<0\/1000000<n))(f:¬jH k dt=ao):cI k (L w) (.step n dt)=(L w,⟨-3,[]⟩):=by simp[cI];rw[ay h,aK<|by simpa using f]
theorem st_step_i{dt:F}(hk:bV k)(h:¬(n<0\/1000000<n))(f:cV k dt):cI k (L w) (.step n dt)=(match jt k dt {springs:=w.springs,walls:=w.walls} n.toNat w.bodies with
 |none=>(L w,⟨-5,[]⟩)
 |some l=>(L {w with bodies:=l},⟨0,[]⟩)):=by
 simp[cI];obtain⟨x,e⟩:=half_some hk f;rw[ay h,ay (by rw[f.2];decide),WA e];have:∀n bs,jt k dt w n bs=jt k dt {springs:=w.springs,walls:=w.walls} n bs:=λn=>by
  induction n with
  |zero=>intro bs;rfl
  |succ n ih=>
   intro bs;show(j5 k dt _).bind _=(j5 k dt _).bind _
   congr 1
   funext x
   exact ih x
 rw[this]
 cases jt k dt {springs:=w.springs,walls:=w.walls} n.toNat w.bodies<;>rfl
theorem st_get_r(h:(!fI w a n||(decide (b<0)||decide (20<=b)))=ao):cI k (L w) (.get a n b)=(L w,⟨-2,[]⟩):=by
 simp[cI,tM]
 cases e:fI w a n with
 |false=>rfl
 |true=>
  rw[e] at h;simp[Xv,tU,Fy,kl] at h;simp only[nT];rw[aK h]
theorem st_get_s(h:(!fI w a n||(decide (b<0)||decide (20<=b)))=aM):cI k (L w) (.get a n b)=(L w,⟨0,((w.bodies.drop a.toNat).take n.toNat).map λb'=>(numbers b').getD b.toNat 0⟩):=by
 simp[Ad,JQ,Gz] at h;simp only[cI,tM];rw[h.1];simp only[nT];rw[ay<|by lia]
def uC(b:ae):df:=decide (0<=b)&&free b.toNat
theorem st_put_r(h:(!fI w a n|| !uC b)=ao):cI k (L w) (.put a n b l)=(L w,⟨-2,[]⟩):=by
 simp[cI,tM]
 cases e:fI w a n with
 |false=>rfl
 |true=>
  rw[e] at h;unfold uC at h;simp[Xv,tU,Bool.not_eq_true',Xt,Gz] at h;simp only[nT];rw[aK (h.imp (λz=>by omega) λz=>z)]
theorem st_put_i(h:(!fI w a n|| !uC b)=aM):cI k (L w) (.put a n b l)=if l.all (jH k)=ao then(L<|putIn w a.toNat b.toNat l,⟨0,[]⟩) else(L w,⟨-3,[]⟩):=by
 unfold uC at h;simp[Ad,JQ,eX,kl] at h;simp only[cI,tM];rw[h.1];simp only[nT];rw[ay (by rw[h.2.2];simp;lia)]
 cases l.all _<;>rfl
theorem st_sums:cI k (L w) .sums=(match AB k {bodies:=w.bodies,springs:=w.springs} with
 |none=>(L w,⟨-5,[]⟩)
 |some l=>(L w,⟨0,l⟩)):=J
theorem st_box_n(h:w.bodies.length=0):cI k (L w) .box=(L w,⟨-1,[]⟩):=by
 simp only[cI];rw[oo h];rfl
theorem st_box_s(h:¬w.bodies.length=0):cI k (L w) .box=(L w,⟨0,box k {bodies:=w.bodies}⟩):=by
 simp only[cI];rw[ay]
 ·rfl
 ·intro z
  rw[List.isEmpty_iff] at z;rw[z] at h;exact h J
theorem st_slow_r(h:m<0\/4096<m):cI k (L w) (.slow d m)=(L w,⟨-2,[]⟩):=by simp only[cI];rw[aK h]
theorem st_slow_n(h:¬(m<0\/4096<m))(f:¬jH k d=ao):cI k (L w) (.slow d m)=(L w,⟨-3,[]⟩):=by simp[cI];rw[ay h,aK<|by simpa using f]
theorem st_slow_i(h:¬(m<0\/4096<m))(f:jH k d=ao):cI k (L w) (.slow d m)=(match slow k d w with
 |none=>(L w,⟨-5,[]⟩)
 |some l=>(L w,⟨l.length,l.take m.toNat⟩)):=by simp[cI];rw[ay h,ay (by rw[f];decide)];cases slow k d w<;>rfl
def placeOf(k:aB)(r:P)(b:fu):au P:=(turned k b.turn r).bind λa=>iZ k b.at_ a
theorem st_points_r(h:fI w a n=aM):cI k (L w) (.points a n l)=(L w,⟨-2,[]⟩):=by
 simp only[cI,tM,h];rfl
theorem st_points_n(h:fI w a n=ao)(f:[x,y,z].all (jH k)=aM):cI k (L w) (.points a n [x,y,z])=(L w,⟨-3,[]⟩):=by
 simp only[cI,tM,h,nT];rw[aK f]
theorem st_points_i(h:fI w a n=ao)(f:[x,y,z].all (jH k)=ao):cI k (L w) (.points a n [x,y,z])=(match bf (placeOf k ⟨x,y,z⟩) ((w.bodies.drop a.toNat).take n.toNat) with
 |none=>(L w,⟨-5,[]⟩)
 |some ps=>(L w,⟨0,ps.flatMap ow⟩)):=by
 simp only[cI,tM,h,nT];rw[ay (by rw[f];decide),xh];rfl
theorem st_frame_r(h:fI w a n=aM):cI k (L w) (.frame a n)=(L w,⟨-2,[]⟩):=by
 simp only[cI,tM,h];rfl
def tH(b:fu):af F:=b.at_.list++b.turn.list
theorem st_frame_s(h:fI w a n=ao):cI k (L w) (.frame a n)=(L w,⟨0,(((w.bodies.drop a.toNat).take n.toNat).flatMap tH).map (other k<|otherKind k)⟩):=by
 simp[cI,tM,h,nT];rw[List.map_flatMap];rfl
theorem LD(h:fI w a n=ao):0<=a/\0<=n/\a+n<=w.bodies.length:=by
 unfold fI at h;simpa using h
theorem NW:∀bs:af fu,(bs.flatMap tH).length=7*bs.length
 |[]=>rfl
 |b::bs=>by rw[J8,iT,NW bs];show 7+_=7*(bs.length+1);lia
theorem OX:∀ps:af P,(ps.flatMap ow).length=3*ps.length
 |[]=>rfl
 |b::bs=>by rw[J8,iT,OX bs];show 3+_=3*(bs.length+1);lia
end Bw
namespace Bw
open Rb49
open Rb49Neutral (nats)
section
variable{r t:af ae}{o:ae}{q:Call}
def Xr(p:ae)(r t:af ae)(o:ae)(q:Call):Prop:=[r=o::t/\gR o/\q= .begin_,∃l,r=o::20::(l++t)/\(∀z∈l,eV o z)/\l.length=20/\q= .body (nats l),∃i j l,r=o::i::j::9::(l++t)/\(∀z∈l,eV o z)/\l.length=9/\q= .spring i j (nats l),∃l,r=o::6::(l++t)/\(∀z∈l,eV o z)/\l.length=6/\q= .walls (nats l),∃n d,r=o::n::d::t/\eV o d/\q= .step n d.toNat,∃a n b,r=o::a::n::b::t/\q= .get a n b,∃a b l,r=o::a::b::l.length::(l++t)/\(∀z∈l,eV o z)/\l.length<=4096/\q= .put a l.length b (nats l),r=o::t/\q= .sums,r=o::t/\q= .box,∃d m,r=o::d::m::t/\eV o d/\q= .slow d.toNat m,∃a n l,r=o::a::n::3::(l++t)/\(∀z∈l,eV o z)/\l.length=3/\q= .points a n (nats l),∃a n,r=o::a::n::t/\q= .frame a n].getD p.toNat jb
theorem pN(h:fk p r t o q):Xr p r t o q:=by
 cases h<;>first|exact⟨_,_,_,J,by assumption,by assumption,J⟩|exact⟨_,J,by assumption,by assumption,J⟩|exact⟨_,_,J,by assumption,J⟩|exact⟨J,by assumption,J⟩|exact⟨_,_,_,J,J⟩|exact⟨_,_,J,J⟩|exact⟨J,J⟩
theorem KJ(h:fk 0 r t o q):r=o::t/\gR o/\q= .begin_:=pN h
theorem Zl(h:fk 1 r t o q):∃l,r=o::20::(l++t)/\(∀z∈l,eV o z)/\l.length=20/\q= .body (nats l):=pN h
theorem Zo(h:fk 2 r t o q):∃i j l,r=o::i::j::9::(l++t)/\(∀z∈l,eV o z)/\l.length=9/\q= .spring i j (nats l):=pN h
theorem Zp(h:fk 3 r t o q):∃l,r=o::6::(l++t)/\(∀z∈l,eV o z)/\l.length=6/\q= .walls (nats l):=pN h
theorem Zr(h:fk 4 r t o q):∃n d,r=o::n::d::t/\eV o d/\q= .step n d.toNat:=pN h
theorem Zs(h:fk 5 r t o q):∃a n b,r=o::a::n::b::t/\q= .get a n b:=pN h
theorem Zt(h:fk 6 r t o q):∃a b l,r=o::a::b::l.length::(l++t)/\(∀z∈l,eV o z)/\l.length<=4096/\q= .put a l.length b (nats l):=pN h
theorem Zu(h:fk 7 r t o q):r=o::t/\q= .sums:=pN h
theorem Zv(h:fk 8 r t o q):r=o::t/\q= .box:=pN h
theorem Zw(h:fk 9 r t o q):∃d m,r=o::d::m::t/\eV o d/\q= .slow d.toNat m:=pN h
theorem Zm(h:fk 10 r t o q):∃a n l,r=o::a::n::3::(l++t)/\(∀z∈l,eV o z)/\l.length=3/\q= .points a n (nats l):=pN h
theorem Zn(h:fk 11 r t o q):∃a n,r=o::a::n::t/\q= .frame a n:=pN h
theorem QH(h:fk p r t o q):0<=p/\p<=11:=by cases h<;>decide
end
theorem K6{l:af ae}(h:l.drop n=x::r):l[n]? =L x/\l.drop (n+1)=r/\n<l.length:=by
 have h0:(l.drop n)[0]? =L x:=by rw[h];rfl
 rw[X9,Ak] at h0;refine⟨h0,?_,(List.getElem?_eq_some_iff.mp h0).1⟩;rw[<-X0,h];rfl
theorem Rn{l:af ae}(hn:n<=l.length)(h:l.drop n=x++t):l.drop (n+x.length)=t/\(l.drop n).take x.length=x/\n+x.length<=l.length:=by
 refine⟨by rw[<-X0,h,List.drop_left],by rw[h,List.take_left],?_⟩;have:=gM J9 h;rw[Cu,iT] at this
 lia
end Bw
namespace Bw
open Rb49
theorem step_some(k:aB)(w:World)(c:Call):∃w',(cI k (L w) c).1=L w':=by
 cases c<;>simp[cI]<;>repeat' (first|exact⟨_,J⟩|split)
theorem nstep_has{s:NS}(h:fk p r t o q)(hp:p=0\/ ∃w,s o=L w)(hb:∀j∈b,∃w,s j=L w):∀j∈o::b,∃w,(gP s o q).1 j=L w:=λj hj=>by
 show∃w,(if j=o then(cI _ (s o) q).1 else s j)=L w;by_cases e:j=o
 ·rw[aK e]
  rcases hp with rfl|⟨w,hw⟩
  ·obtain⟨_,_,rfl⟩:=KJ h
   exact⟨{},by cases s o<;>rfl⟩
  ·rw[hw]
   exact step_some _ _ _
 ·rw[ay e]
  rcases List.mem_cons.mp hj with z|z
  ·exact absurd z e
  ·exact hb j z
theorem nstep_len{s:NS}(h:fk p r t o q)(hp:p=0\/ ∃w,s o=L w)(hb:∀w,s o=L w->w.bodies.length<=4096):(gP s o q).2.length<=28673:=by
 unfold gP;rcases hp with rfl|⟨w,hw⟩
 ·obtain⟨_,_,rfl⟩:=KJ h
  cases s o<;>(show 1<=28673)<;>decide
 ·rw[hw]
  have:=UO (k:=AF o) (hb w hw) q;show(FJ _ _).length+1<=_;rw[ie]
  lia
end Bw
namespace L2
open PySem PySem.Spec PyProof.Rows
abbrev hU:=Sum ae ax
def qP:hU->aH->df
 | .inl k,v=>Y0 k v
 | .inr x,v=>Y1 x v
def keyH(w:World):hU->ae
 | .inl k=>oG k
 | .inr x=>hashStr w x
theorem uR:∀{k:hU}{v:aH},qP k v=ao->(∃i t,k=eU i/\v=KG i t)\/(∃x t,k=AI x/\v=KH x t)
 | .inl i,v,h=>by
  obtain⟨t,e⟩:=Value.isInt_shape h;exact .inl ⟨i,t,J,e⟩
 | .inr x,v,h=>by
  obtain⟨t,e⟩:=Value.isStrOf_shape h;exact .inr ⟨x,t,J,e⟩
theorem keyIs_int(i:ae)(t:Tok):qP (.inl i) (.int i t)=ao:=by simp[qP,Y0]
theorem keyIs_str(x:ax)(t:Tok):qP (.inr x) (.str x t)=ao:=by simp[qP,Y1]
theorem key_ll(a b:ae):decide ((eU a:hU)=eU b)=(a==b):=by
 by_cases e:a=b
 ·subst e;simp
 ·have h:¬(eU a:hU)=eU b:=λq=>e<|YW q
  rw[hX h];exact(beq_eq_false_iff_ne.mpr e).symm
theorem key_rr(a b:ax):decide ((AI a:hU)=AI b)=decide (a=b):=by
 by_cases e:a=b
 ·subst e;simp
 ·have h:¬(AI a:hU)=AI b:=λq=>e<|Sum.inr.inj q
  simp[hX h,hX e]
theorem key_lr(a:ae)(b:ax):decide ((eU a)=AI b)=aM:=hX (λq=>nomatch q)
theorem key_rl(a:ax)(b:ae):decide ((AI a)=eU b)=aM:=hX (λq=>nomatch q)
def nU(prog:cO)(w:World):PySem.KeyKind prog w hU where
 is:=qP
 hash:=keyH w
 inj:=λv a b ha hb=>by
  rcases uR ha with⟨i,t,rfl,rfl⟩|⟨x,t,rfl,rfl⟩
  ·rcases uR hb with⟨j,u,rfl,e⟩|⟨y,u,rfl,e⟩
   ·injection e with e1 _;rw[e1]
   ·exact nomatch e
  ·rcases uR hb with⟨j,u,rfl,e⟩|⟨y,u,rfl,e⟩
   ·exact nomatch e
   ·injection e with e1 _;rw[e1]
 byValue:=λk v h=>by
  rcases uR h with⟨i,t,rfl,rfl⟩|⟨x,t,rfl,rfl⟩<;>rfl
 pyHash:=λhv h=>by
  rcases uR hv with⟨i,t,rfl,rfl⟩|⟨x,t,rfl,rfl⟩
  ·exact wpAny_pyHash_int h
  ·exact wpAny_pyHash_str h
 eqBool:=λhu hv h=>by
  rcases uR hu with⟨i,t,rfl,rfl⟩|⟨x,t,rfl,rfl⟩
  ·rcases uR hv with⟨j,u,rfl,rfl⟩|⟨y,u,rfl,rfl⟩
   ·rw[key_ll] at h;exact wpAny_eqBool_int h
   ·rw[key_lr] at h;exact SeqAt.EqAt.int_str i t y u _ _ _ _ h
  ·rcases uR hv with⟨j,u,rfl,rfl⟩|⟨y,u,rfl,rfl⟩
   ·rw[key_rl] at h;exact SeqAt.EqAt.str_int x t j u _ _ _ _ h
   ·rw[key_rr] at h;exact wpAny_eqBool_str h
 «strs»:=λk x t v h=>by
  rcases uR h with⟨i,u,rfl,e⟩|⟨y,u,rfl,e⟩
  ·exact nomatch e
  ·injection e with e1 _
   subst e1
   cases v<;>rfl
theorem mixKind_int(prog:cO)(w:World)(i:ae)(t:Tok):(nU prog w).is (.inl i) (.int i t)=ao:=keyIs_int i t
theorem mixKind_str(prog:cO)(w:World)(x:ax)(t:Tok):(nU prog w).is (.inr x) (.str x t)=ao:=keyIs_str x t
end L2
namespace L2
open PySem PySem.Spec PyProof.Rows
inductive V where
 |cu|bl (b:df)|int (i:ae)|str (x:ax)|nF (b:jv UInt8)|GQ (b:UInt64)|ref (a:ak)|ty (n:yG)
 deriving DecidableEq
def RelV:V->aH->Prop
 | .cu,u=>u=Dd
 | .bl b,u=>u=Dc b
 | .int i,u=>∃t,u=KG i t
 | .str x,u=>∃t,u=KH x t
 | .nF b,u=>∃t,u=YY b t
 | .GQ b,u=>∃t,u=YZ b t
 | .ref a,u=>u=kg a
 | .ty n,u=>u=AJ n
abbrev cJ:af V->af aH->Prop:=Paired RelV
theorem cJ.length(r:cJ xs us):xs.length=us.length:=P6 r
theorem cJ.get:∀{xs:af V}{us:af aH}{i:ag}{x:V},cJ xs us->xs[i]? =L x-> ∃u,us[i]? =L u/\RelV x u
 |_,_,_,_,.nil,e=>by simp at e
 |_,_,0,_,.cons r _,e=>by simp at e;subst e;exact⟨_,J,r⟩
 |_,_,i+1,x,.cons _ t,e=>by
  obtain⟨u,h1,h2⟩:=cJ.get t<|by simpa using e
  exact⟨u,by simpa using h1,h2⟩
theorem cJ.set(r:RelV x u):∀{xs:af V}{us:af aH}i,cJ xs us->cJ (xs.set i x) (us.set i u)
 |_,_,_,.nil=>.nil
 |_,_,0,.cons _ t=>.cons r t
 |_,_,i+1,.cons q t=>.cons q<|cJ.set r i t
theorem cJ.append:∀{xs ys:af V}{us ws:af aH},cJ xs us->cJ ys ws->cJ (xs++ys) (us++ws)
 |_,_,_,_,.nil,s=>s
 |_,_,_,_,.cons r t,s=>.cons r<|cJ.append t s
theorem cJ.take:∀{xs:af V}{us:af aH}n,cJ xs us->cJ (xs.take n) (us.take n)
 |_,_,0,_=>.nil
 |_,_,_+1,.nil=>.nil
 |_,_,n+1,.cons r t=>.cons r<|cJ.take n t
theorem cJ.drop:∀{xs:af V}{us:af aH}n,cJ xs us->cJ (xs.drop n) (us.drop n)
 |_,_,0,r=>r
 |_,_,_+1,.nil=>.nil
 |_,_,n+1,.cons _ t=>cJ.drop n t
def lG:au V->au aH->Prop
 |some v,L u=>RelV v u
 |none,ah=>jb
 |_,_=>e_
def KV:af (κ×V)->af (κ×aH)->Prop:=Paired λp q=>p.1=q.1/\RelV p.2 q.2
def kV:hU->V
 | .inl i=>.int i
 | .inr x=>.str x
inductive HO where
 |lst (xs:af V)
 |tup (xs:af V)
 |dK (aW:af<|hU×V)|dT (aW:af<|af hU×V)
 |set (S:ae->df) (n:ag)
 |ins (C dx:ak) (fs:af<|ax×V)
 |own (x:ak)
 |xd (fs:af<|ax×V)
 |met (f x:ak)
 |Nl (lo hi:ae)
 |iX (o:eR) (u:HO)
 |vP (ps:jv aH)
 |ext (φ:b9->Prop)
abbrev Hp:=ak->au HO
def aC(H:Hp)(a:ak)(o:HO):Hp:=λb=>if b=a then L o else H b
theorem bw:aC H a o a=L o:=by unfold aC;rw[aK J]
theorem bJ(h:b≠a):aC H a o b=H b:=by unfold aC;rw[ay h]
theorem eJ{H:Hp}(h:H a=L o)(h':H b=L u)(d:o≠u):a≠b:=by
 intro e;subst e;rw[h] at h';exact d<|ny h'
theorem dy{H:Hp}(h:H a=L o)(h':H b=ah):a≠b:=by
 intro e;subst e;rw[h] at h';cases h'
section
variable(P:cO)(w:World)
def gU(H:Hp)(h:b9)(a:ak):HO->Prop
 | .lst xs=>xs.length<=bI/\ ∃(aZ:af aH)(n:ag),cJ xs aZ/\h.get? a=L {cls:=.type "list",data:=.seq aZ.toArray n}
 | .tup xs=>xs.length<=bI/\ ∃aZ,cJ xs aZ/\IsTup h a aZ.toArray
 | .dK aW=>aW.length<=bI/\(a==xV)=aM/\ ∃vs,KV aW vs/\h.DictOf (nU P w) a vs
 | .dT aW=>aW.length<=bI/\(a==xV)=aM/\ ∃xs,Paired (λp q=>p.1=q.1/\H q.2.1=L (.tup<|p.1.map kV)/\RelV p.2 q.2.2) aW xs/\
  ∃o es ep,h.get? a=L o/\o.ExactDict/\o.data= .dict es ep/\es.toList=xs.map (entryOfKey (JD<|nU P w))/\(xs.map (·.1)).Nodup
 | .set S n=>h.SetOf (intKind P w) a S n
 | .ins C dx fs=>H dx=L (.own a)/\fs.length<=1000/\dx≠a/\h.get? a=L (CW C dx)/\ ∃mA,h.Ns1 dx mA/\(∀f,lG (fs.lookup f)<|mA f)/\Qi mA (fs.map (·.1))
 | .own _=>∃o,h.get? a=L o
 | .xd fs=>∃mA,h.Ns1 a mA/\ ∀f,lG (fs.lookup f)<|mA f
 | .Nl lo hi=>∃t u v,h.get? a=L {cls:=.type "range",data:=.fields #[.int lo t,.int hi u,.int 1 v]}
 | .iX o u=>h.get? a=L o/\gU H h a u
 | .vP ps=>h.get? a=L {cls:=.none,data:=.fields ps}
 | .met f x=>h.get? a=L (PySem.W.methodObj (.ref f)<|.ref x)
 | .ext φ=>φ h/\(∃o,h.get? a=L o)/\ ∀h1 h2,φ h1->(∀o,h1.get? a=L o->h2.get? a=L o)->φ h2
def eK(H:Hp)(h:b9):Prop:=∀a o,H a=L o->gU P w H h a o
end
section
variable{P:cO}{w:World}{H H':Hp}{h h':b9}{a:ak}{o:HO}
theorem gU.lt(x:gU P w H h a o):a<h.objs.size:=by
 cases o with
 |lst xs=>obtain⟨_,_,_,_,e⟩:=x;exact ej e
 |tup xs=>obtain⟨_,_,_,p⟩:=x;exact p.lt
 |dK aW=>obtain⟨_,_,_,_,o,_,_,e,_⟩:=x;exact ej e
 |dT aW=>obtain⟨_,_,_,_,o,_,_,e,_⟩:=x;exact ej e
 |set S n=>obtain⟨o,_,_,_,e,_⟩:=x;exact ej e
 |ins C dx fs=>obtain⟨_,_,_,e,_⟩:=x;exact ej e
 |own y=>obtain⟨_,e⟩:=x;exact ej e
 |xd fs=>obtain⟨_,⟨_,_,_,e,_⟩,_⟩:=x;exact ej e
 |Nl lo hi=>obtain⟨_,_,_,e⟩:=x;exact ej e
 |iX ob u=>obtain⟨e,_⟩:=x;exact ej e
 |vP ps=>exact ej (show h.get? a=L _ from x)
 |met f y=>exact ej (show h.get? a=L _ from x)
 |ext φ=>obtain⟨_,⟨_,e⟩,_⟩:=x;exact ej e
theorem Paired.Mh{F G:α->β->Prop}:∀{Tb:af α}{Tc:af β},Paired F Tb Tc->(∀a b,F a b->G a b)->Paired G Tb Tc
 |_,_,.nil,_=>.nil
 |_,_,.cons r t,f=>.cons (f _ _ r)<|Paired.Mh t f
theorem gU.vO(x:gU P w H h a o)(k:∀b u,(b=a\/H b=L (.own a))->h.get? b=L u->h'.get? b=L u)
 (ho:∀b,H b=L (.own a)->H' b=L (.own a)) (ht:∀b xs,H b=L (.tup xs)->H' b=L (.tup xs)):gU P w H' h' a o:=by
 induction o with
 |lst xs=>obtain⟨z,aZ,n,r,e⟩:=x;exact⟨z,aZ,n,r,k _ _ (.inl J) e⟩
 |tup xs=>obtain⟨z,aZ,r,ob,e,c⟩:=x;exact⟨z,aZ,r,ob,k _ _ (.inl J) e,c⟩
 |dK aW=>obtain⟨z,y,vs,r,ob,es,ep,e,c⟩:=x;exact⟨z,y,vs,r,ob,es,ep,k _ _ (.inl J) e,c⟩
 |dT aW=>
  obtain⟨z,y,xs,r,ob,es,ep,e,c⟩:=x;exact⟨z,y,xs,Paired.Mh r λp q z=>⟨z.1,ht _ _ z.2.1,z.2.2⟩,ob,es,ep,k _ _ (.inl J) e,c⟩
 |set S n=>obtain⟨ob,es,ep,t,e,c⟩:=x;exact⟨ob,es,ep,t,k _ _ (.inl J) e,c⟩
 |ins C dx fs=>
  obtain⟨d,z,ne,e,mA,⟨od,es,ep,e2,c⟩,r⟩:=x;exact⟨ho _ d,z,ne,k _ _ (.inl J) e,mA,⟨od,es,ep,k _ _ (.inr d) e2,c⟩,r⟩
 |own y=>obtain⟨ob,e⟩:=x;exact⟨ob,k _ _ (.inl J) e⟩
 |xd fs=>obtain⟨mA,⟨od,es,ep,e,c⟩,r⟩:=x;exact⟨mA,⟨od,es,ep,k _ _ (.inl J) e,c⟩,r⟩
 |Nl lo hi=>obtain⟨t,u,v,e⟩:=x;exact⟨t,u,v,k _ _ (.inl J) e⟩
 |iX ob u ih=>obtain⟨e,q⟩:=x;exact⟨k _ _ (.inl J) e,ih q⟩
 |vP ps=>
  have e:=x;exact k a _ (.inl J) e
 |met f y=>
  have e:=x;exact k a _ (.inl J) e
 |ext φ=>obtain⟨p,⟨o,e⟩,st⟩:=x;exact⟨st _ _ p λo q=>k _ _ (.inl J) q,⟨o,k _ _ (.inl J) e⟩,st⟩
theorem eK.lt(x:eK P w H h)(e:H a=L o):a<h.objs.size:=(x a o e).lt
theorem eK.fresh(x:eK P w H h)(e:h.objs.size<=a):H a=ah:=by
 cases q:H a with
 |none=>rfl
 |some u=>exact absurd (gy (x.lt q) e)<|nr _
theorem eK.kept(x:eK P w H h)(k:∀b u,h.get? b=L u->h'.get? b=L u):eK P w H h':=λa o e=>
 (x a o e).vO (λb u _ q=>k b u q) (λ_ q=>q) λ_ _ q=>q
theorem eK.kR(x:eK P w H h)(k:∀b u,h.get? b=L u->h'.get? b=L u)(hp:h.objs.size<=a)(new:gU P w (aC H a o) h' a o):eK P w (aC H a o) h':=λb u e=>by
 have hn:=x.fresh hp;by_cases hb:b=a
 ·subst hb;rw[bw] at e;cases e;exact new
 ·rw[bJ hb] at e
  exact(x b u e).vO (λc v _ q=>k c v q) (λc q=>by rw[bJ<|dy q hn];exact q) λc xs q=>by rw[bJ<|dy q hn];exact q
end
def Rd(H:Hp)(a:ak)(u:HO):Prop:=H a=L u\/ ∃o,H a=L (.iX o u)
theorem Rd.ok(r:Rd H a u)(x:eK P w H h):gU P w H h a u:=by
 rcases r with r|⟨o,r⟩
 ·exact x a u r
 ·obtain⟨_,q⟩:=x a _ r
  exact q
def Cz:au HO->Prop
 |some (.lst _)=>jb
 |some (.dK _)=>jb
 |some (.dT _)=>jb
 |some (.set _ _)=>jb
 |some (.ins _ _ _)=>jb
 |some (.ext _)=>jb
 |_=>e_
section
variable{P:cO}{w:World}{H:Hp}{h h':b9}{x e:ak}{o':HO}
theorem eK.vV(ok:eK P w H h)(mu:Cz<|H x)(he:e=x\/H e=L (.own x))(k:∀b u,b≠e->h.get? b=L u->h'.get? b=L u)(Bd:∃u,h'.get? e=L u)
 (new:gU P w (aC H x o') h' x o'):eK P w (aC H x o') h':=λb u q=>by
 have T9:∀c y,H c=L (.own y)->c≠x:=λc y r z=>by subst z;rw[r] at mu;exact mu
 have ntup:∀c xs,H c=L (.tup xs)->c≠x:=λc xs r z=>by subst z;rw[r] at mu;exact mu
 by_cases hb:b=x
 ·subst hb;rw[bw] at q;cases q;exact new
 ·rw[bJ hb] at q
  by_cases hbe:b=e
  ·have q':H b=L (.own x):=by
    rcases he with z|z
    ·exact absurd (hbe.trans z) hb
    ·rw[hbe];exact z
   rw[q] at q';cases q'
   obtain⟨v,hv⟩:=Bd;exact⟨v,by rw[hbe];exact hv⟩
  ·refine(ok b u q).vO (λc v hc r=>k c v ?_ r) (λc r=>by rw[bJ<|T9 c b r];exact r) λc xs r=>by rw[bJ<|ntup c xs r];exact r
   rcases hc with rfl|hc
   ·exact hbe
   ·rintro rfl
    rcases he with z|z
    ·exact T9 c b hc z
    ·rw[hc] at z;cases z;exact hb J
end
structure Un(fs ex:af ak)(H H':Hp)(h h':b9):Prop where
 keep:∀b o,h.get? b=L o->H b=ah->b∉fs->b∉ex->h'.get? b=L o
 jr:∀b o,h.get? b=L o->H b=ah->b∈fs->b∉ex-> ∃sl,h'.get? b=L {o with slots:=sl}
 free:∀b o,h.get? b=L o->H b=ah->b∉ex->H' b=ah
 there:∀b o,h.get? b=L o->b∉ex-> ∃o',h'.get? b=L o'
 mU:∀b xs,H b=L (.tup xs)->H' b=L (.tup xs)
 lL:∀b o u,H b=L (.iX o u)->H' b=L (.iX o u)
 mQ:∀b ps,H b=L (.vP ps)-> ∃more,H' b=L (.vP<|ps++more)
section
variable{fs jI ex ex':af ak}{H U H2:Hp}{h h1 h2 h':b9}{a x e:ak}{o:HO}
theorem Un.any(u:Un fs ex H U h h1)(q:h.get? b=L ob)(n:H b=ah)(hx:b∉ex):∃sl,h1.get? b=L {ob with slots:=sl}:=by
 by_cases hb:b∈fs
 ·exact u.jr b ob q n hb hx
 ·exact⟨ob.slots,u.keep b ob q n hb hx⟩
theorem Un.kept(k:∀b u,h.get? b=L u->h'.get? b=L u):Un fs ex H H h h':=⟨λb ob q _ _ _=>k b ob q,λb ob q _ _ _=>⟨ob.slots,k b ob q⟩,λ_ _ _ n _=>n,λb ob q _=>⟨ob,k b ob q⟩,λ_ _ q=>q,λ_ _ _ q=>q,λ_ ps q=>⟨#[],by rw[q];simp⟩⟩
theorem Un.refl:Un fs ex H H h h:=Un.kept λ_ _ q=>q
theorem Un.kR(k:∀b u,h.get? b=L u->h'.get? b=L u)(hp:h.objs.size<=a)(hn:H a=ah):Un fs ex H (aC H a o) h h' where
 keep:=λb u q _ _ _=>k b u q
 jr:=λb u q _ _ _=>⟨u.slots,k b u q⟩
 free:=λb u q n _=>by rw[bJ (j_<|gy (ej q) hp)];exact n
 there:=λb u q _=>⟨u,k b u q⟩
 mU:=λb xs q=>by rw[bJ<|dy q hn];exact q
 lL:=λb u xs q=>by rw[bJ<|dy q hn];exact q
 mQ:=λb ps q=>⟨#[],by rw[bJ<|dy q hn,q];simp⟩
theorem Un.vV(mu:Cz<|H x)(he:e=x\/H e=L (.own x))(k:∀b u,b≠e->h.get? b=L u->h'.get? b=L u)(Bd:∃u,h'.get? e=L u):Un fs ex H (aC H x o) h h':=by
 have hx:∀b,H b=ah->b≠x:=λb n z=>by subst z;rw[n] at mu;exact mu
 have hb:∀b,H b=ah->b≠e:=λb n z=>by
  subst z;rcases he with r|r
  ·exact hx b n r
  ·rw[n] at r;cases r
 have hm:∀b u,H b=L u-> ¬Cz (L u)->b≠x:=λb u q nm z=>by subst z;rw[q] at mu;exact nm mu
 refine⟨λb u q n _ _=>k b u (hb b n) q,λb u q n _ _=>⟨u.slots,k b u (hb b n) q⟩,λb u q n _=>by rw[bJ<|hx b n];exact n,λb u q _=>?_,λb xs q=>by rw[bJ (hm b _ q λz=>z)];exact q,λb u xs q=>by rw[bJ (hm b _ q λz=>z)];exact q,λb ps q=>⟨#[],by rw[bJ (hm b _ q λz=>z),q];simp⟩⟩
 by_cases hbe:b=e
 ·subst hbe;exact Bd
 ·exact⟨u,k b u hbe q⟩
end
def W2(h:b9)(H:Hp):af ak:=(iC h.objs.size).filter λa=>(H a).isSome
def Be(h:b9)(H:Hp):b9:=Au h<|W2 h H
theorem hidT_size(h:b9)(H:Hp):(Be h H).objs.size=h.objs.size:=PySem.W.hideAll_size _ _
theorem hidT_get(e:h.get? b=L o)(n:H b=ah):(Be h H).get? b=L o:=FZ _ e λhm=>by
  have q:=(List.mem_filter.mp hm).2;rw[n] at q;simp at q
theorem of_hidT(e:(Be h H).get? b=L o):h.get? b=L o/\H b=ah:=by
 have e':=Kt _ e;refine⟨e',?_⟩
 cases q:H b with
 |none=>rfl
 |some x=>
  have hm:b∈W2 h H:=List.mem_filter.mpr ⟨List.mem_range.mpr<|ej e',by simp[q]⟩;have z:(Be h H).get? b=ah:=YL _ hm;rw[z] at e;cases e
end L2
namespace L2
open PySem PySem.Spec PyProof.Rows
structure Mod(K:aq)(mg:ax->au aH)(base:b9):Prop where
 sV:K.In base
 uH:base.Ns ee mg
 AN:∃mb,base.Ns Q4 mb/\ ∀x:ax,x≠"__name__"->mb x=Dm x
 nolimit:base.NoLimit
structure Cx where
 prog:cO
 w:World
 K:aq
 mg:ax->au aH
 base:b9
 A:oj
 N:af ax
 gK:c_
 tX:Hp
 env:j9
 bA:af j9
 stack:af j9
 ex:af ak
 fn:ax->df
 kj:df
 pn:af (ak×eR)
 xe:aH->c_->Prop
def fg(l:af j9):af ak:=l.filterMap (·.frame)
abbrev Cx.fs(X:Cx):af ak:=fg X.bA
def De(sc:mx)(x:ax):Prop:=sc.names.lookup x=L .local\/sc.names.lookup x=L .cell\/sc.names.lookup x=L .free
def Loc(sc:mx)(x:ax):Prop:=sc.names.lookup x=L .local\/sc.names.lookup x=L .cell
def Look(env:j9)(h:b9)(m:ax->au aH)(x:ax)(u:aH):Prop:=(env.kindOf x=L .local/\m x=L u)\/((env.kindOf x=L .cell\/env.kindOf x=L .free)/\ ∃c,env.cells.lookup x=L c/\h.IsCell c (L u))
structure Cx.Ok(X:Cx):Prop where
 mod:Mod X.K X.mg X.base
 kind:X.env.scope.kind= .function
 uH:X.env.globals=ee
 AN:X.env.builtins=Q4
 above:X.gK.heap.objs.size<=X.env.locals
 inj:∀x y c,X.env.cells.lookup x=L c->X.env.cells.lookup y=L c->x=y
 uK:∀x,(X.env.kindOf x=L .cell\/X.env.kindOf x=L .free)-> ∃c,X.env.cells.lookup x=L c
 Dn:∀x c,X.fn x=ao->X.env.cells.lookup x=L c->X.gK.heap.objs.size<=c
 hd:X.kj=ao->X.A.handled=ah
 frames:X.A.frames=L X.stack
 Jr:X.stack=X.bA\/(X.stack=X.env::X.bA/\X.env.frame=L X.env.locals)
 AS:∀b∈X.ex,b≠X.env.locals/\ ∀x c,X.env.cells.lookup x=L c->c≠b
 bs:∀b o,X.base.get? b=L o->X.gK.heap.get? b=L o/\X.tX b=ah
 qI:X.base.objs.size<=X.gK.heap.objs.size
 Ei:∀b o,X.base.get? b=L o->b∉X.ex
 AU:∀b∈X.ex,b∉X.fs
 lM:X.gK.heap.FunFrames X.base X.bA
 uG:∀b∈X.fs,X.tX b=ah
structure Inv(X:Cx)(ai:af<|ak×eR)(σ:af<|au V)(H:Hp)(s:c_):Prop where
 ok:X.Ok
 os:s.os=X.gK.os
 eG:tQ s.gens
 base:Un X.fs X.ex X.tX H X.gK.heap s.heap
 hZ:∃m,s.heap.Ns X.env.locals m/\ ∀(i:ag)x v,X.N[i]? =L x->σ[i]? =L (L v)->De X.env.scope x-> ∃u,RelV v u/\Look X.env s.heap m x u
 cell:∀x c,X.env.cells.lookup x=L c-> ∃v,s.heap.IsCell c v
 free:H X.env.locals=ah
 jY:∀x c,X.env.cells.lookup x=L c->H c=ah
 jn:∀p∈X.pn++ai,s.heap.get? p.1=L p.2/\H p.1=ah/\p.1≠X.env.locals/\p.1∉X.fs/\ ∀v,p.2.data≠ .cell v
 bL:eK X.prog X.w H s.heap
 bH:σ.length=X.N.length
section
variable{X:Cx}{ai:af (ak×eR)}{σ:af (au V)}{H H':Hp}{s:c_}{h':b9}
theorem Cx.Ok.T6(ok:X.Ok)(e:X.base.get? b=L o):b∉X.fs:=λhb=>by
 have:=(ok.lM.mem hb).1;rw[e] at this;cases this
theorem Inv.bs(I:Inv X ai σ H s):∀b o,X.base.get? b=L o->s.heap.get? b=L o/\H b=ah:=λb o e=>
 ⟨I.base.keep b o (I.ok.bs b o e).1 (I.ok.bs b o e).2 (I.ok.T6 e)<|I.ok.Ei b o e,I.base.free b o (I.ok.bs b o e).1 (I.ok.bs b o e).2<|I.ok.Ei b o e⟩
theorem Inv.bk(I:Inv X ai σ H s):∀b o,X.base.get? b=L o->s.heap.get? b=L o:=λb o e=>(I.bs b o e).1
theorem Inv.mod(I:Inv X ai σ H s):Mod X.K X.mg X.base:=I.ok.mod
theorem Inv.iM(I:Inv X ai σ H s):X.K.In s.heap:=I.ok.mod.sV.keeps I.bk
theorem Inv.fr(I:Inv X ai σ H s):∃m,Fr X.base X.env.locals s.heap m:=let⟨m,hn,_⟩:=I.hZ
 ⟨m,hn,I.bk,dN I.ok.qI I.ok.above⟩
theorem Inv.lt(I:Inv X ai σ H s):X.env.locals<s.heap.objs.size:=let⟨_,hn,_⟩:=I.hZ;hn.lt
theorem Inv.sz(I:Inv X ai σ H s):X.gK.heap.objs.size<=s.heap.objs.size:=dN I.ok.above<|CD I.lt
theorem Inv.nofs(I:Inv X ai σ H s){a:ak}(h:s.heap.objs.size<=a):a∉X.fs:=λhb=>by
 obtain⟨_,o,ho,_⟩:=I.ok.lM.mem hb;exact absurd (gy (ej ho)<|dN I.sz h)<|nr _
theorem Inv.yM(I:Inv X ai σ H s):∀x c,X.env.cells.lookup x=L c->c≠X.env.locals:=λx c e z=>by
 obtain⟨v,o,ho,hd⟩:=I.cell x c e;obtain⟨m,⟨o',es,ep,nQ,hd',_⟩,_⟩:=I.hZ;rw[z,nQ] at ho;cases ho;rw[hd'] at hd;cases hd
theorem Inv.lM(I:Inv X ai σ H s):s.heap.FunFrames X.base X.bA:=by
 have all:∀l,(∀b∈fg l,b∈X.fs)->X.gK.heap.FunFrames X.base l->s.heap.FunFrames X.base l:=by
  intro l
  induction l with
  |nil=>intro _ _;trivial
  |cons env r ih=>
   intro hs hl;obtain⟨hk,⟨cN,o,hf,hn,ho,hd⟩,hr⟩:=hl;have hL:=hs cN (by unfold fg;rw[Ag,hf];exact iB);obtain⟨sl,e⟩:=I.base.jr cN o ho (I.ok.uG cN hL) hL λz=>I.ok.AU cN z hL;exact⟨hk,⟨cN,_,hf,hn,e,hd⟩,ih (λb hb=>hs b (by unfold fg;rw[Ag,hf];exact gD _ hb)) hr⟩
 exact all X.bA (λ_ hb=>hb) I.ok.lM
theorem Inv.stack(I:Inv X ai σ H s):s.heap.FunFrames X.base X.stack:=by
 rcases I.ok.Jr with e|⟨e,hf⟩
 ·rw[e];exact I.lM
 ·rw[e]
  obtain⟨m,hn,_⟩:=I.hZ;refine .cons (by rw[I.ok.kind];decide) hf hn ?_ I.lM;exact Heap.get?_none_of_le<|dN I.ok.qI I.ok.above
theorem Inv.B4(I:Inv X ai σ H s):∀b∈fg X.stack,b∈X.env.locals::X.fs:=λb hb=>by
 rcases I.ok.Jr with e|⟨e,hf⟩
 ·rw[e] at hb;exact gD _ hb
 ·rw[e] at hb
  unfold fg at hb;rw[Ag,hf] at hb;exact hb
theorem Inv.OH(I:Inv X ai σ H s):∀b∈fg X.stack,H b=ah:=λb hb=>by
 rcases List.mem_cons.mp (I.B4 b hb) with e|hb
 ·rw[e];exact I.free
 ·obtain⟨_,o,ho,_⟩:=I.ok.lM.mem hb
  exact I.base.free b o ho (I.ok.uG b hb) λz=>I.ok.AU b z hb
theorem Inv.step{ch:af ak}(I:Inv X ai σ H s)
 (sJ:∀b∈ch,(b∈X.ex\/X.gK.heap.objs.size<=b)/\b≠X.env.locals/\(∀x c,X.env.cells.lookup x=L c->c≠b)/\ ∀p∈X.pn++ai,p.1≠b)
 (keep:∀b o,b≠X.env.locals->b∉X.fs->b∉ch->s.heap.get? b=L o->H b=ah->h'.get? b=L o)
 (jr:∀b o,b≠X.env.locals->b∈X.fs->b∉ch->s.heap.get? b=L o->H b=ah-> ∃sl,h'.get? b=L {o with slots:=sl}) (free:∀b o,b∉ch->s.heap.get? b=L o->H b=ah->H' b=ah)
 (there:∀b o,b∉ch->s.heap.get? b=L o-> ∃o',h'.get? b=L o')
 (mU:∀b xs,H b=L (.tup xs)->H' b=L (.tup xs)) (lL:∀b o u,H b=L (.iX o u)->H' b=L (.iX o u)) (mQ:∀b ps,H b=L (.vP ps)-> ∃more,H' b=L (.vP<|ps++more))
 (ns:∀m,s.heap.Ns X.env.locals m->h'.Ns X.env.locals m) (bL:eK X.prog X.w H' h') (hg:tQ g'):
 Inv X ai σ H' {s with heap:=h',gens:=g',drawn:=d',toks:=t'}:=by
 have TV:∀b o,X.gK.heap.get? b=L o->b≠X.env.locals:=λb o e=>j_<|gy (ej e) I.ok.above;have HB:∀b o,X.gK.heap.get? b=L o->b∉X.ex->b∉ch:=λb o e hx hb=>by
  rcases(sJ b hb).1 with z|z
  ·exact hx z
  ·exact absurd (gy (ej e) z)<|nr _
 have Ds:∀x c,X.env.cells.lookup x=L c-> ∀v,s.heap.IsCell c v->h'.IsCell c v:=λx c e v dm=>by
  obtain⟨o,ho,hd⟩:=dm;have Ea:=λz=>(sJ c z).2.2.1 x c e J;by_cases hc:c∈X.fs
  ·obtain⟨sl,q⟩:=jr c o (I.yM x c e) hc Ea ho<|I.jY x c e
   exact⟨_,q,hd⟩
  ·exact⟨o,keep c o (I.yM x c e) hc Ea ho<|I.jY x c e,hd⟩
 refine⟨I.ok,I.os,hg,⟨λb o e n hb hx=>?_,λb o e n hb hx=>?_,λb o e n hx=>?_,λb o e hx=>?_,λb xs e=>mU b xs<|I.base.mU b xs e,λb o xs e=>lL b o xs<|I.base.lL b o xs e,λb ps e=>?_⟩,?_,λx c e=>?_,?_,λx c e=>?_,λp hp=>?_,bL,I.bH⟩
 ·exact keep b o (TV b o e) hb (HB b o e hx) (I.base.keep b o e n hb hx)<|I.base.free b o e n hx
 ·obtain⟨sl,e1⟩:=I.base.jr b o e n hb hx
  obtain⟨sl',e2⟩:=jr b _ (TV b o e) hb (HB b o e hx) e1<|I.base.free b o e n hx;exact⟨sl',e2⟩
 ·obtain⟨o',e1⟩:=I.base.there b o e hx
  exact free b o' (HB b o e hx) e1<|I.base.free b o e n hx
 ·obtain⟨o',e1⟩:=I.base.there b o e hx
  exact there b o' (HB b o e hx) e1
 ·obtain⟨m1,e1⟩:=I.base.mQ b ps e
  obtain⟨m2,e2⟩:=mQ b _ e1;exact⟨m1++m2,by rw[e2,JP]⟩
 ·obtain⟨m,hn,hl⟩:=I.hZ
  refine⟨m,ns m hn,λi x v e1 e2 e3=>?_⟩;obtain⟨u,r,l⟩:=hl i x v e1 e2 e3;refine⟨u,r,?_⟩;rcases l with l|⟨k,c,e,z⟩
  ·exact .inl l
  ·exact .inr ⟨k,c,e,Ds x c e _ z⟩
 ·obtain⟨v,z⟩:=I.cell x c e
  exact⟨v,Ds x c e v z⟩
 ·obtain⟨m,⟨o,_,_,ho,_⟩,_⟩:=I.hZ
  exact free _ o (λz=>(sJ _ z).2.1 J) ho I.free
 ·obtain⟨v,o,ho,hd⟩:=I.cell x c e
  exact free c o (λz=>(sJ c z).2.2.1 x c e J) ho<|I.jY x c e
 ·obtain⟨e,n,ne,nf,d⟩:=I.jn p hp
  have Ea:=λz=>(sJ p.1 z).2.2.2 p hp J;exact⟨keep p.1 p.2 ne nf Ea e n,free p.1 p.2 Ea e n,ne,nf,d⟩
theorem Inv.un(I:Inv X ai σ H s)(u:Un X.fs [] H H' s.heap h')(bL:eK X.prog X.w H' h'):Inv X ai σ H' {s with heap:=h',toks:=t'}:=by
 obtain⟨m,⟨o,es,ep,ho,r⟩,_⟩:=id I.hZ;obtain⟨sl,hL⟩:=u.any ho I.free<|by simp
 exact I.step (ch:=[]) (λ_ z=>nomatch z) (λb o _ hb _ e n=>u.keep b o e n hb<|by simp) (λb o _ hb _ e n=>u.jr b o e n hb<|by simp) (λb o _ e n=>u.free b o e n<|by simp) (λb o _ e=>u.there b o e<|by simp) u.mU u.lL u.mQ (λm' hm=>by
  obtain⟨o',es',ep',nQ,r'⟩:=hm;rw[ho] at nQ;cases nQ
  exact⟨_,es',ep',hL,r'⟩) bL I.eG
theorem Inv.call(I:Inv X ai σ H s)(u:Un (fg X.stack) ch H H' s.heap h')(bL:eK X.prog X.w H' h')(hg:tQ g')
 (sJ:∀b∈ch,(b∈X.ex\/X.gK.heap.objs.size<=b)/\b≠X.env.locals/\(∀x c,X.env.cells.lookup x=L c->c≠b)/\ ∀p∈X.pn++ai,p.1≠b):
 Inv X ai σ H' {s with heap:=h',gens:=g',drawn:=d',toks:=t'}:=by
 obtain⟨m,⟨o,es,ep,ho,r⟩,_⟩:=id I.hZ;obtain⟨sl,hL⟩:=u.any ho I.free λz=>(sJ _ z).2.1 J
 exact I.step sJ (λb o hL hb hc e n=>u.keep b o e n (λz=>(List.mem_cons.mp<|I.B4 b z).elim hL hb) hc) (λb o _ _ hc e n=>u.any e n hc) (λb o hc e n=>u.free b o e n hc) (λb o hc e=>u.there b o e hc) u.mU u.lL u.mQ (λm' hm=>by
  obtain⟨o',es',ep',nQ,r'⟩:=hm;rw[ho] at nQ;cases nQ
  exact⟨_,es',ep',hL,r'⟩) bL hg
theorem Inv.turned(I:Inv X ai σ H s)(k:∀b o,b≠it->s.heap.get? b=L o->h'.get? b=L o)(hn:H it=ah)(hL:it≠X.env.locals)
 (h1:it∈X.ex\/X.gK.heap.objs.size<=it) (h2:∀x c,X.env.cells.lookup x=L c->c≠it) (h3:∀p∈X.pn++ai,p.1≠it):Inv X ai σ H {s with heap:=h',toks:=t'}:=by
 have xn:∀b u,H b=L u->b≠it:=λb u e z=>by rw[z,hn] at e;cases e
 refine I.step (ch:=[it]) (λb hb=>?_) (λb o _ _ hc e _=>k b o (λz=>hc<|by simp[z]) e) (λb o _ _ hc e _=>⟨o.slots,k b o (λz=>hc<|by simp[z]) e⟩) (λ_ _ _ _ n=>n)
  (λb o hc e=>⟨o,k b o (λz=>hc<|by simp[z]) e⟩) (λ_ _ e=>e) (λ_ _ _ e=>e) (λb ps e=>⟨#[],by rw[e];simp⟩) (λm hm=>?_) (λb u e=>?_) I.eG
 ·have e:=by simpa using hb
  subst e;exact⟨h1,hL,h2,h3⟩
 ·obtain⟨o,es,ep,ho,r⟩:=hm
  exact⟨o,es,ep,k _ o (dB hL) ho,r⟩
 ·refine(I.bL b u e).vO (λc v hc q=>k c v ?_ q) (λ_ q=>q) λ_ _ q=>q
  rcases hc with z|z
  ·rw[z];exact xn b u e
  ·exact xn c _ z
theorem Inv.mf(I:Inv X ai σ H s)(t:ag):Inv X ai σ H {s with toks:=t}:=I.un Un.refl I.bL
theorem Inv.kept(I:Inv X ai σ H s)(k:∀b u,s.heap.get? b=L u->h'.get? b=L u):Inv X ai σ H {s with heap:=h',toks:=t'}:=I.un (Un.kept k)<|I.bL.kept k
theorem Inv.kR{a:ak}(I:Inv X ai σ H s)(k:∀b u,s.heap.get? b=L u->h'.get? b=L u)(hp:s.heap.objs.size<=a)(new:gU X.prog X.w (aC H a o) h' a o):Inv X ai σ (aC H a o) {s with heap:=h',toks:=t'}:=I.un (Un.kR k hp<|I.bL.fresh hp)<|I.bL.kR k hp new
theorem Inv.vV(I:Inv X ai σ H s)(mu:Cz<|H x)(he:e=x\/H e=L (.own x))(k:∀b u,b≠e->s.heap.get? b=L u->h'.get? b=L u)(Bd:∃u,h'.get? e=L u)
 (new:gU X.prog X.w (aC H x o) h' x o):Inv X ai σ (aC H x o) {s with heap:=h',toks:=t'}:=I.un (Un.vV mu he k Bd)<|I.bL.vV mu he k Bd new
theorem Inv.tN(I:Inv X ai σ H s)(hl:aS.length=σ.length)(w:∀(i:ag)v,aS[i]? =L (L v)->σ[i]? =L (L v)):Inv X ai aS H s:=⟨I.ok,I.os,I.eG,I.base,let⟨m,hn,hl'⟩:=I.hZ;⟨m,hn,λi x v e1 e2 e3=>hl' i x v e1 (w i v e2) e3⟩,I.cell,I.free,I.jY,I.jn,I.bL,hl.trans I.bH⟩
theorem Inv.UW(I:Inv X ai σ H s)(h:∀p∈pins',s.heap.get? p.1=L p.2/\H p.1=ah/\p.1≠X.env.locals/\p.1∉X.fs/\ ∀v,p.2.data≠ .cell v):Inv X pins' σ H s:=⟨I.ok,I.os,I.eG,I.base,I.hZ,I.cell,I.free,I.jY,λp hp=>(List.mem_append.mp hp).elim (λz=>I.jn p<|PQ _ z)<|h p,I.bL,I.bH⟩
theorem My{N:af ax}(hN:N.Nodup){i j:ag}(a:N[i]? =L x)(b:N[j]? =L x):i=j:=by
 obtain⟨h1,e1⟩:=List.getElem?_eq_some_iff.mp a;obtain⟨h2,e2⟩:=List.getElem?_eq_some_iff.mp b;exact(Ya hN).mp<|e1.trans e2.symm
theorem WD(I:Inv X ai σ H s)(hN:X.N.Nodup)(hi:X.N[i]? =L x)(hx:Loc X.env.scope x)(r:RelV v u)
 (h:∀s',Inv X ai (σ.set i<|L v) H s'->(∃a,FC a s.heap s'.heap/\(a=X.env.locals\/X.env.cells.lookup x=L a))->Q () s') (hf:X.fn x=ao\/X.env.scope.names.lookup x=L .local:=by first|exact .inl J|exact .inr J|assumption):b_ aJ A (WC X.env x u) Q E s:=by
 obtain⟨m,hn,hl⟩:=id I.hZ;have wX:(X.env.scope.kind== .class||(X.env.scope.kind== .module&&X.env.locals !=X.env.globals))=aM:=by rw[I.ok.kind];rfl
 have Su:i<σ.length:=by rw[I.bH];exact(List.getElem?_eq_some_iff.mp hi).1
 have yM:=I.yM;have W0:∀{a:ak}{h':b9},(∃o,s.heap.get? a=L o/\H a=ah)->FC a s.heap h'->eK X.prog X.w H h':=λ{a h'}ha hs b ob e=>by
  obtain⟨_,_,wZ⟩:=ha;refine(I.bL b ob e).vO (λc w' hc q=>(hs.2 c ?_).trans q) (λ_ q=>q) λ_ _ q=>q
  rintro rfl
  rcases hc with rfl|hc
  ·rw[wZ] at e;cases e
  ·rw[wZ] at hc;cases hc
 rcases hx with hk|hk
 ·refine wpAny_storeName_local hk hn (λh' mD hs=>?_) wX
  obtain⟨oL,_,_,hoL,_⟩:=id hn;refine h _ ⟨I.ok,I.os,I.eG,⟨λb o e n hb hx=>?_,λb o e n hb hx=>?_,I.base.free,λb o e hx=>?_,I.base.mU,I.base.lL,I.base.mQ⟩,⟨_,mD,λj y v' e1 e2 e3=>?_⟩,λy c e=>?_,I.free,I.jY,λp hp=>?_,W0 ⟨oL,hoL,I.free⟩ hs,by simpa using I.bH⟩ ⟨_,hs,.inl J⟩
  ·exact(hs.2 b (j_<|gy (ej e) I.ok.above)).trans<|I.base.keep b o e n hb hx
  ·obtain⟨sl,e1⟩:=I.base.jr b o e n hb hx
   exact⟨sl,(hs.2 b (j_<|gy (ej e) I.ok.above)).trans e1⟩
  ·obtain⟨o',e1⟩:=I.base.there b o e hx
   exact⟨o',(hs.2 b (j_<|gy (ej e) I.ok.above)).trans e1⟩
  ·by_cases hj:j=i
   ·subst hj
    rw[hi] at e1;cases e1
    rw[Ct Su] at e2
    cases e2
    exact⟨u,r,.inl ⟨hk,by simp⟩⟩
   ·rw[Ah<|dB hj] at e2
    obtain⟨u',r',q⟩:=hl j y v' e1 e2 e3;refine⟨u',r',?_⟩;rcases q with⟨k,e⟩|⟨k,c,e,z⟩
    ·refine .inl ⟨k,?_⟩
     have:y≠x:=λe=>hj (My hN e1<|e▸hi);simp[this,e]
    ·exact .inr ⟨k,c,e,z.sameBut hs<|yM y c e⟩
  ·obtain⟨w',z⟩:=I.cell y c e
   exact⟨w',z.sameBut hs<|yM y c e⟩
  ·obtain⟨e,n,ne,nf,d⟩:=I.jn p hp
   exact⟨(hs.2 p.1 ne).trans e,n,ne,nf,d⟩
 ·have LH:X.fn x=ao:=by
   rcases hf with z|z
   ·exact z
   ·rw[z] at hk;cases hk
  obtain⟨c,hc⟩:=I.ok.uK x<|.inl hk;obtain⟨w',z⟩:=I.cell x c hc;refine wpAny_storeName_cell I.ok.kind hk hc z λh' Sk hs=>?_;obtain⟨oc,hoc,hocd⟩:=id z;refine h {s with heap:=h'} ⟨I.ok,I.os,I.eG,⟨λb o e n hb hx=>?_,λb o e n hb hx=>?_,I.base.free,λb o e hx=>?_,I.base.mU,I.base.lL,I.base.mQ⟩,⟨m,hn.sameBut hs (dB<|yM x c hc),λj y v' e1 e2 e3=>?_⟩,λy c' e=>?_,I.free,I.jY,λp hp=>?_,W0 ⟨oc,hoc,I.jY x c hc⟩ hs,by simpa using I.bH⟩ ⟨c,hs,.inr hc⟩
  ·exact(hs.2 b<|j_ (gy (ej e)<|I.ok.Dn x c LH hc)).trans<|I.base.keep b o e n hb hx
  ·obtain⟨sl,e1⟩:=I.base.jr b o e n hb hx
   exact⟨sl,(hs.2 b<|j_ (gy (ej e)<|I.ok.Dn x c LH hc)).trans e1⟩
  ·obtain⟨o',e1⟩:=I.base.there b o e hx
   exact⟨o',(hs.2 b<|j_ (gy (ej e)<|I.ok.Dn x c LH hc)).trans e1⟩
  ·by_cases hj:j=i
   ·subst hj
    rw[hi] at e1;cases e1
    rw[Ct Su] at e2
    cases e2
    exact⟨u,r,.inr ⟨.inl hk,c,hc,Sk⟩⟩
   ·rw[Ah<|dB hj] at e2
    obtain⟨u',r',q⟩:=hl j y v' e1 e2 e3;refine⟨u',r',?_⟩;rcases q with q|⟨k,c',e,z'⟩
    ·exact .inl q
    ·refine .inr ⟨k,c',e,z'.sameBut hs ?_⟩
     rintro rfl
     exact hj (My hN e1<|I.ok.inj _ _ _ e hc▸hi)
  ·by_cases DL:c'=c
   ·subst DL;exact⟨_,Sk⟩
   ·obtain⟨w2,z2⟩:=I.cell y c' e
    exact⟨w2,z2.sameBut hs DL⟩
  ·obtain⟨e,n,ne,nf,d⟩:=I.jn p hp
   refine⟨(hs.2 p.1 ?_).trans e,n,ne,nf,d⟩;intro q;rw[q,hoc] at e;have q':=ny e;exact d w' (by rw[<-q'];exact hocd)
theorem OI(I:Inv X ai σ H s)(hN:X.N.Nodup)(hi:X.N[i]? =L x)(hx:Loc X.env.scope x)(r:RelV v u)
 (h:∀s',Inv X ai (σ.set i<|L v) H s'->Q () s') (hf:X.fn x=ao\/X.env.scope.names.lookup x=L .local:=by first|exact .inl J|exact .inr J|assumption):b_ aJ A (WC X.env x u) Q E s:=WD I hN hi hx r (λs' I' _=>h s' I') hf
theorem Inv.Q6(I:Inv X ai σ H s)(ho:s'.os=s.os)(u:Un (fg X.stack) ch H H' s.heap s'.heap)(bL:eK X.prog X.w H' s'.heap)(hg:tQ s'.gens)
 (sJ:∀b∈ch,(b∈X.ex\/X.gK.heap.objs.size<=b)/\b≠X.env.locals/\(∀x c,X.env.cells.lookup x=L c->c≠b)/\ ∀p∈X.pn++ai,p.1≠b):Inv X ai σ H' s':=by
 obtain⟨h',g',d',t',o'⟩:=s';have e:=ho;subst e;exact I.call u bL hg sJ
end
abbrev XK:=aH->au ak->Hp->Prop
abbrev St:=af<|au V
abbrev VK:=V->Hp->Prop
abbrev TE:=St->Hp->VK->Prop
abbrev TT:=St->Hp->(df->Hp->Prop)->Prop
abbrev TA:=St->Hp->(af V->Hp->Prop)->Prop
structure Ends where
 nx:St->Hp->Prop
 rt:VK
 bk:St->Hp->Prop:=λ_ _=>e_
 ct:St->Hp->Prop:=λ_ _=>e_
abbrev TS:=Ends->St->Hp->Prop
inductive EP(X:Cx)(ai:af<|ak×eR)(σ:St)(Q:VK)(u:aH)(s':c_):Prop
 |mk:∀v H',Inv X ai σ H' s'->RelV v u->Q v H'->EP X ai σ Q u s'
inductive TP(X:Cx)(ai:af<|ak×eR)(σ:St)(Q:df->Hp->Prop)(b:df)(s':c_):Prop
 |mk:∀H',Inv X ai σ H' s'->Q b H'->TP X ai σ Q b s'
inductive AP(X:Cx)(ai:af<|ak×eR)(σ:St)(Q:af V->Hp->Prop)(us:af aH)(s':c_):Prop
 |mk:∀vs H',Inv X ai σ H' s'->cJ vs us->Q vs H'->AP X ai σ Q us s'
def SP(X:Cx)(ai:af<|ak×eR)(D:Ends)(f:Flow)(s':c_):Prop:=match f with
 | .next=>∃aS H',Inv X ai aS H' s'/\D.nx aS H'
 | .brk=>∃aS H',Inv X ai aS H' s'/\D.bk aS H'
 | .cont=>∃aS H',Inv X ai aS H' s'/\D.ct aS H'
 | .ret u=>∃v aS H',Inv X ai aS H' s'/\RelV v u/\D.rt v H'
def PE(X:Cx)(e:Expr)(t:TE):Prop:=∀ai s(σ:St)H Q,Inv X ai σ H s->t σ H Q->b_ (bX X.prog X.w) X.A (dg e X.env) (EP X ai σ Q) X.xe s
def PT(X:Cx)(e:Expr)(t:TT):Prop:=∀ai s(σ:St)H Q,Inv X ai σ H s->t σ H Q->b_ (bX X.prog X.w) X.A (Hl e X.env<|dg e X.env) (TP X ai σ Q) X.xe s
def PW(X:Cx)(e:Expr)(t:TT):Prop:=∀whole ai s(σ:St)H Q,Inv X ai σ H s->t σ H Q->b_ (bX X.prog X.w) X.A (Hl e X.env whole) (TP X ai σ Q) X.xe s
theorem PW.pt(h:PW X e t):PT X e t:=h _
def PA(X:Cx)(es:af Expr)(t:TA):Prop:=∀pos ai s(σ:St)H Q,Inv X ai σ H s->t σ H Q->b_ (bX X.prog X.w) X.A (spliced (jC pos<|dv es X.env)) (AP X ai σ Q) X.xe s
def PS(X:Cx)(st:dq)(t:TS):Prop:=∀ai s(σ:St)H D,Inv X ai σ H s->t D σ H->b_ (bX X.prog X.w) X.A (exec st X.env) (SP X ai D) X.xe s
def gV(X:Cx)(st:af dq)(t:TS):Prop:=∀ai s(σ:St)H D,Inv X ai σ H s->t D σ H->b_ (bX X.prog X.w) X.A (execs st X.env) (SP X ai D) X.xe s
theorem cn{t:Sem α}{Q Q':α->c_->Prop}(h:b_ aJ A t Q E s)(hQ:∀a s,Q a s->Q' a s):b_ aJ A t Q' E s:=lr h hQ λ_ _ x=>x
end L2
namespace L2
open PySem PySem.Spec PyProof.Rows
section
variable{X:Cx}
inductive Qy(o:au<|au V)(G:V->Prop):Prop
 |mk:∀v,o=L (L v)->G v->Qy o G
def aw(i:ag):TE:=λσ H Q=>Qy (σ[i]?) λv=>Q v H
def tC(v:V):TE:=λ_ H Q=>Q v H
theorem pe_var{pos:gW}(hN:X.N[i]? =L x)(hv:De X.env.scope x)(hd:(x=="__debug__")=aM:=by decide)(my:(x=="__classdict__")=aM:=by decide):PE X (.Name x pos)<|aw i:=by
 intro ai s σ H Q I h;obtain⟨v,e,h⟩:=h;obtain⟨m,hn,hl⟩:=I.hZ;obtain⟨u,r,l⟩:=hl i x v hN e hv;have dr:EP X ai σ Q u s:=⟨v,H,I,r,h⟩;rcases l with⟨hk,hm⟩|⟨hk,c,hc,hcell⟩
 ·exact Xk (wpAny_loadName_local I.ok.kind hk hn hm dr) hd
 ·rcases hk with hk|hk
  ·exact Xk (wpAny_loadName_cell I.ok.kind hk hc hcell dr) hd
  ·exact Xk (wpAny_loadName_free I.ok.kind hk hc hcell dr my) hd
theorem a_:PE X (.Constant (.int i) j pos) (tC<|.int i):=λ_ _ _ H _ I h=>wpAny_Constant_int ⟨.int i,H,I.mf _,⟨_,J⟩,h⟩
theorem pe_bl:PE X (.Constant (.bool b) j pos) (tC<|.bl b):=λ_ _ _ H _ I h=>Constant_bool ⟨.bl b,H,I,J,h⟩
theorem nY:PE X (.Constant .none j pos)<|tC .cu:=λ_ _ _ H _ I h=>Constant_none ⟨.cu,H,I,J,h⟩
def Gl(X:Cx)(x:ax):Prop:=X.env.kindOf x=L .globalImplicit
theorem zl{σ:St}(I:Inv X ai σ H s)(hg:Gl X x)(hm:X.mg x=L u)(h:Q u s)
 (hd:(x=="__debug__")=aM:=by decide):b_ (bX X.prog X.w) X.A (dg (.Name x pos) X.env) Q E s:=Xz I.ok.kind hg (Calls.loadGlobal_global (by rw[I.ok.uH];exact I.mod.uH.keeps I.bk) hm h) hd
theorem D4{E:aH->c_->Prop}{σ:St}{pos:gW}(I:Inv X ai σ H s)(hg:Gl X x)(hm:X.mg x=ah)(hv:Dm x=L u)(h:Q u s)
 (hn:x≠"__name__":=by decide) (hd:(x=="__debug__")=aM:=by decide):b_ (bX X.prog X.w) X.A (dg (.Name x pos) X.env) Q E s:=by
 obtain⟨mb,h1,h2⟩:=I.mod.AN;exact Xz I.ok.kind hg (Calls.loadGlobal_builtin (by rw[I.ok.uH];exact I.mod.uH.keeps I.bk) hm (by rw[I.ok.AN];exact h1.keeps I.bk) ((h2 x hn).trans hv) h) hd
theorem dH(hg:Gl X x)(hm:X.mg x=L u)(r:RelV v u)(hd:(x=="__debug__")=aM:=by decide):PE X (.Name x pos)<|tC v:=λ_ _ _ H _ I h=>zl I hg hm ⟨v,H,I,r,h⟩ hd
variable{a b:Expr}{ta tb:TE}{pos:gW}
def PC(X:Cx)(op:CmpOp)(a b:Expr)(t:TE):Prop:=∀ai s(σ:St)H Q,Inv X ai σ H s->t σ H Q->b_ (bX X.prog X.w) X.A (dg a X.env) (λv eQ=>b_ (bX X.prog X.w) X.A (dg b X.env) (λu j6=>b_ (bX X.prog X.w) X.A (nI op v u) (EP X ai σ Q) X.xe j6) X.xe eQ) X.xe s
inductive Cg(x:V)(H:Hp)(Q:df->Hp->Prop):Prop
 |mk:∀c,x= .bl c->Q c H->Cg x H Q
def tB(t:TE):TT:=λσ H Q=>t σ H λx U=>Cg x U Q
theorem pt_cmp(h:PC X op a b t)(h1:behindInMarks op b=aM:=by first|exact nobehind _ dc dc|rfl):PT X (.Compare a [op] [b] pos)<|tB t:=by
 intro ai s σ H Q I hw;refine wpAny_isTrue_Compare1 (cn (h ai s σ H _ I hw) λv s1 h1=>cn h1 λu s2 h2=>cn h2 λc s3⟨x,U,I1,r1,q1⟩=>?_) h1;obtain⟨d,rfl,q⟩:=q1
 cases r1
 exact Cc ⟨U,I1,q⟩
theorem i7(h:PE X e t)(he:∀whole,Hl e X.env whole=(do let v<-whole;Jp e.pos;Bi [v] (truthy v)):=by intro _;rfl):PT X e<|tB t:=by
 intro ai s σ H Q I hw;refine isTrue_plain (cn (h ai s σ H _ I hw) λv s1⟨x,U,I1,r1,q1⟩=>?_)<|he _;obtain⟨d,rfl,q⟩:=q1
 cases r1
 exact Cc ⟨U,I1,q⟩
variable{tA Ju:TT}{rest:af Expr}
def tAnd(t u:TT):TT:=λσ H Q=>t σ H λc U=>if c=ao then u σ U Q else Q aM U
def OR(t u:TT):TT:=λσ H Q=>t σ H λc U=>if c=ao then Q ao U else u σ U Q
def WS(t:TT):TT:=λσ H Q=>t σ H λc U=>Q (!c) U
theorem pw_and1(ha:PT X a tA):PW X (.BoolOp .And [a] pos) tA:=by
 intro wh ai s σ H Q I h;refine isTrue_and (cn (ha ai s σ H Q I h) λc s1 e=>?_)
 cases c with
 |true=>exact isTrue_and_nil e
 |false=>exact e
theorem vA(ha:PT X a tA):PW X (.BoolOp .Or [a] pos) tA:=by
 intro wh ai s σ H Q I h;refine isTrue_or (cn (ha ai s σ H Q I h) λc s1 e=>?_)
 cases c with
 |false=>exact isTrue_or_nil e
 |true=>exact e
theorem pw_and(ha:PT X a tA)(hb:PW X (.BoolOp .And (b::rest) pos) Ju):PW X (.BoolOp .And (a::b::rest) pos)<|tAnd tA Ju:=by
 intro wh ai s σ H Q I h;refine isTrue_and (cn (ha ai s σ H _ I h) λc s1⟨U,I1,q1⟩=>?_)
 cases c with
 |true=>exact hb wh ai s1 σ U Q I1 q1
 |false=>exact⟨U,I1,q1⟩
theorem qr(ha:PT X a tA)(hb:PW X (.BoolOp .Or (b::rest) pos) Ju):PW X (.BoolOp .Or (a::b::rest) pos)<|OR tA Ju:=by
 intro wh ai s σ H Q I h;refine isTrue_or (cn (ha ai s σ H _ I h) λc s1⟨U,I1,q1⟩=>?_)
 cases c with
 |true=>exact⟨U,I1,q1⟩
 |false=>exact hb wh ai s1 σ U Q I1 q1
theorem vz(ha:PT X a tA):PT X (.UnaryOp .Not a pos)<|WS tA:=by
 intro ai s σ H Q I h;exact isTrue_not (cn (ha ai s σ H (λc U=>Q _ U) I h) λc s1⟨U,I1,q1⟩=>⟨U,I1,q1⟩)
def WN(ta tb:TE):TE:=λσ H Q=>ta σ H λx U=>∃c,x= .bl c/\if c=ao then tb σ U Q else Q (.bl aM) U
def WU(ta tb:TE):TE:=λσ H Q=>ta σ H λx U=>∃c,x= .bl c/\if c=ao then Q (.bl ao) U else tb σ U Q
def WT(ta:TE):TE:=λσ H Q=>ta σ H λx U=>∃c,x= .bl c/\Q (.bl<|!c) U
theorem tD(h:PE X a t):PE X (.BoolOp op [a] pos) t:=λai s σ H Q I hw=>BoolOp_one<|h ai s σ H Q I hw
theorem xG(ha:PE X a ta)(hb:PE X (.BoolOp .And (b::rest) pos) tb):PE X (.BoolOp .And (a::b::rest) pos)<|WN ta tb:=by
 intro ai s σ H Q I h;refine BoolOp_and (cn (ha ai s σ H _ I h) λv s1⟨x,U,I1,r1,q1⟩=>?_);obtain⟨c,rfl,q1⟩:=q1
 cases r1
 refine Cc ?_
 cases c with
 |true=>exact hb ai s1 σ U Q I1 q1
 |false=>exact⟨.bl aM,U,I1,J,q1⟩
theorem M0(ha:PE X a ta)(hb:PE X (.BoolOp .Or (b::rest) pos) tb):PE X (.BoolOp .Or (a::b::rest) pos)<|WU ta tb:=by
 intro ai s σ H Q I h;refine BoolOp_or (cn (ha ai s σ H _ I h) λv s1⟨x,U,I1,r1,q1⟩=>?_);obtain⟨c,rfl,q1⟩:=q1
 cases r1
 refine Cc ?_
 cases c with
 |false=>exact hb ai s1 σ U Q I1 q1
 |true=>exact⟨.bl ao,U,I1,J,q1⟩
theorem US(ha:PE X a ta):PE X (.UnaryOp .Not a pos)<|WT ta:=by
 intro ai s σ H Q I h;refine UnaryOp_ (cn (ha ai s σ H _ I h) λv s1⟨x,U,I1,r1,q1⟩=>?_);obtain⟨c,rfl,q1⟩:=q1
 cases r1
 exact not_of<|Cc ⟨.bl _,U,I1,J,q1⟩
def OO(t:TT)(ta tb:TE):TE:=λσ H Q=>t σ H λc U=>if c=ao then ta σ U Q else tb σ U Q
theorem mJ(hc:PT X c tA)(ha:PE X a ta)(hb:PE X b tb):PE X (.IfExp c a b pos)<|OO tA ta tb:=by
 intro ai s σ H Q I h;refine wpAny_IfExp (cn (hc ai s σ H _ I h) λd s1⟨U,I1,q1⟩=>?_)
 cases d with
 |true=>exact ha ai s1 σ U Q I1 q1
 |false=>exact hb ai s1 σ U Q I1 q1
end
end L2
namespace L2
open PySem PySem.Spec PyProof.Rows
def SqL(K:aq)(H:Hp)(a:ak)(xs:af V):Prop:=Rd H a (.lst xs)\/ ∃(o:eR)(aZ:jv aH)(n:ag),K.lookup a=L o/\o.cls= .type "list"/\o.dict=ah/\o.data= .seq aZ n/\aZ.size<=bI/\cJ xs aZ.toList
def cH(K:aq)(H:Hp)(a:ak)(xs:af V):Prop:=Rd H a (.tup xs)\/ ∃(o:eR)(aZ:jv aH)(n:ag),K.lookup a=L o/\o.cls= .type "tuple"/\o.data= .seq aZ n/\aZ.size<=bI/\cJ xs aZ.toList
def Y':aH->au V
 | .none=>L .cu
 | .bool b=>L<|.bl b
 | .int i _=>L<|.int i
 | .str x _=>L<|.str x
 | .bytes b _=>L<|.nF b
 | .float b _=>L<|.GQ b
 | .ref a=>L<|.ref a
 | .type n=>L<|.ty n
 |_=>ah
theorem RelV.yH(r:RelV x u):Y' u=L x:=by
 cases x with
 |cu=>cases r;rfl
 |bl _=>cases r;rfl
 |int _=>obtain⟨t,rfl⟩:=r;rfl
 |str _=>obtain⟨t,rfl⟩:=r;rfl
 |nF _=>obtain⟨t,rfl⟩:=r;rfl
 |GQ _=>obtain⟨t,rfl⟩:=r;rfl
 |ref _=>cases r;rfl
 |ty _=>cases r;rfl
theorem RelV.inj(r:RelV x u)(q:RelV y u):x=y:=ny<|r.yH.symm.trans q.yH
theorem cJ.inj:∀{xs ys:af V}{us:af aH},cJ xs us->cJ ys us->xs=ys
 |_,_,_,.nil,.nil=>rfl
 |_,_,_,.cons r t,.cons r' t'=>by rw[r.inj r',cJ.inj t t']
section
variable{X:Cx}{ai:af (ak×eR)}{σ:St}{H:Hp}{s:c_}{a:ak}{xs ys:af V}
theorem SqL.of{K:aq}(h:H a=L (.lst xs)):SqL K H a xs:=.inl<|.inl h
theorem cH.of{K:aq}(h:H a=L (.tup xs)):cH K H a xs:=.inl<|.inl h
theorem Inv.list(I:Inv X ai σ H s)(h:SqL X.K H a xs):∃aZ,cJ xs aZ/\PlainL s.heap a aZ.toArray/\xs.length<=bI:=by
 rcases h with h|⟨o,aZ,n,hk,hc,hd,hs,hz,r⟩
 ·obtain⟨z,aZ,n,r,e⟩:=h.ok I.bL
  exact⟨aZ,r,⟨_,n,e,J,J,J⟩,z⟩
 ·refine⟨aZ.toList,r,⟨o,n,I.iM a o hk,hc,hd,by simpa using hs⟩,?_⟩
  have e:=r.length;simp[Array.length_toList] at e
  lia
theorem Inv.tuple(I:Inv X ai σ H s)(h:cH X.K H a xs):∃aZ,cJ xs aZ/\IsTup s.heap a aZ.toArray/\xs.length<=bI:=by
 rcases h with h|⟨o,aZ,n,hk,hc,hs,hz,r⟩
 ·obtain⟨z,aZ,r,p⟩:=h.ok I.bL
  exact⟨aZ,r,p,z⟩
 ·refine⟨aZ.toList,r,⟨o,I.iM a o hk,hc,n,by simpa using hs⟩,?_⟩
  have e:=r.length;simp[Array.length_toList] at e;omega
theorem Inv.Hu(I:Inv X ai σ H s)(h:SqL X.K H a xs)(h':SqL X.K H a ys):xs=ys:=by
 obtain⟨aZ,r,⟨o,n,e,_,_,d⟩,_⟩:=I.list h;obtain⟨sU,r',⟨o',n',e',_,_,d'⟩,_⟩:=I.list h';rw[e] at e';cases e'
 rw[d] at d';injection d' with d1 _
 have:=by simpa using gM Pk d1
 subst this;exact r.inj r'
theorem Inv.tuple_inj(I:Inv X ai σ H s)(h:cH X.K H a xs)(h':cH X.K H a ys):xs=ys:=by
 obtain⟨aZ,r,⟨o,e,_,n,d⟩,_⟩:=I.tuple h;obtain⟨sU,r',⟨o',e',_,n',d'⟩,_⟩:=I.tuple h';rw[e] at e';cases e'
 rw[d] at d';injection d' with d1 _
 have:=by simpa using gM Pk d1
 subst this;exact r.inj r'
end
abbrev Cx.tO(X:Cx)(E:aH->c_->Prop):Cx:={X with xe:=E}
abbrev Cx.HG(X:Cx):Cx:=X.tO λ_ _=>e_
theorem Cx.Ok.tO{X:Cx}(ok:X.Ok)(E:aH->c_->Prop):(X.tO E).Ok:=⟨ok.mod,ok.kind,ok.uH,ok.AN,ok.above,ok.inj,ok.uK,ok.Dn,ok.hd,ok.frames,ok.Jr,ok.AS,ok.bs,ok.qI,ok.Ei,ok.AU,ok.lM,ok.uG⟩
theorem Cx.Ok.xZ{X:Cx}(ok:(X.tO E).Ok):X.Ok:=⟨ok.mod,ok.kind,ok.uH,ok.AN,ok.above,ok.inj,ok.uK,ok.Dn,ok.hd,ok.frames,ok.Jr,ok.AS,ok.bs,ok.qI,ok.Ei,ok.AU,ok.lM,ok.uG⟩
section
variable{X:Cx}{ai:af (ak×eR)}{σ:St}{H:Hp}{s:c_}{E:aH->c_->Prop}
theorem Inv.tO(I:Inv X ai σ H s)(E:aH->c_->Prop):Inv (X.tO E) ai σ H s:=⟨I.ok.tO E,I.os,I.eG,I.base,I.hZ,I.cell,I.free,I.jY,I.jn,I.bL,I.bH⟩
theorem Inv.xZ(I:Inv (X.tO E) ai σ H s):Inv X ai σ H s:=⟨I.ok.xZ,I.os,I.eG,I.base,I.hZ,I.cell,I.free,I.jY,I.jn,I.bL,I.bH⟩
theorem SP.xZ(h:SP (X.tO E) ai D f s'):SP X ai D f s':=by
 cases f with
 |next=>obtain⟨aS,H',I,q⟩:=h;exact⟨aS,H',I.xZ,q⟩
 |brk=>obtain⟨aS,H',I,q⟩:=h;exact⟨aS,H',I.xZ,q⟩
 |cont=>obtain⟨aS,H',I,q⟩:=h;exact⟨aS,H',I.xZ,q⟩
 |ret u=>obtain⟨v,aS,H',I,r,q⟩:=h;exact⟨v,aS,H',I.xZ,r,q⟩
theorem gV.HG{st:af dq}(h:gV X.HG st t):gV X st t:=λai s σ H D I hw=>
 lr (h ai s σ H D (I.tO _) hw) (λ_ _ q=>q.xZ) λ_ _ z=>ic z
end
section
variable{X:Cx}{st:dq}{rest:af dq}{t u:TS}{e:Expr}{te:TE}{pos:gW}
def Jw:TS:=λD σ H=>D.nx σ H
def oY(t u:TS):TS:=λD σ H=>t {D with nx:=u D} σ H
theorem d7:gV X [] Jw:=λ_ _ σ H _ I h=>JL ⟨σ,H,I,h⟩
theorem aG(h1:PS X st t)(h2:gV X rest u):gV X (st::rest)<|oY t u:=by
 intro ai s σ H D I h;refine wpAny_execs_cons (cn (h1 ai s σ H {D with nx:=u D} I h) λf s1 q=>?_)
 cases f with
 |next=>
  obtain⟨aS,H',I',q⟩:=q;exact h2 ai s1 aS H' D I' q
 |ret v=>exact q
 |brk=>exact q
 |cont=>exact q
theorem aR(h1:PS X st t):gV X [st] t:=by
 intro ai s σ H D I h;refine wpAny_execs_cons (cn (h1 ai s σ H D I h) λf s1 q=>?_)
 cases f with
 |next=>exact JL q
 |ret v=>exact q
 |brk=>exact q
 |cont=>exact q
def tBreak:TS:=λD σ H=>D.bk σ H
theorem ps_break:PS X (.Break pos) tBreak:=λ_ _ σ H _ I h=>wpAny_Break ⟨σ,H,I,h⟩
theorem Inv.quiet{σ:St}(I:Inv X ai σ H s):interactive X.env=aM:=by simp[interactive,I.ok.kind]
def WQ(te:TE):TS:=λD σ H=>te σ H λ_ U=>D.nx σ U
theorem qp(he:PE X e te)(hs:z7 e ah pos.line X.env=pure aM:=by rfl):PS X (.Expr e pos)<|WQ te:=by
 intro ai s σ H D I h;exact wpAny_Expr_any (cn (he ai s σ H _ I h) λv s1 gw=>by obtain⟨x,U,I1,r1,q1⟩:=gw;exact⟨σ,U,I1,q1⟩) I.quiet hs
def WV(te:TE):TS:=λD σ H=>te σ H D.rt
theorem bp(he:PE X e te):PS X (.Return (L e) pos)<|WV te:=by
 intro ai s σ H D I h;exact wpAny_Return_some (cn (he ai s σ H _ I h) λv s1 ju=>by obtain⟨x,U,I1,r1,q1⟩:=ju;exact⟨x,σ,U,I1,r1,q1⟩)
def z8(c:TT)(t u:TS):TS:=λD σ H=>c σ H λb U=>if b=ao then t D σ U else u D σ U
theorem dU(hc:PT X c tc)(ha:gV X a t)(hb:gV X b u):PS X (.If c a b pos)<|z8 tc t u:=by
 intro ai s σ H D I h;refine wpAny_If (cn (hc ai s σ H _ I h) λd s1⟨U,I1,q1⟩=>?_)
 cases d with
 |true=>exact ha ai s1 σ U D I1 q1
 |false=>exact hb ai s1 σ U D I1 q1
end
abbrev TG:=V->St->Hp->(St->Hp->Prop)->Prop
abbrev F7:=af V->St->Hp->(St->Hp->Prop)->Prop
def PG(X:Cx)(Jy:Expr)(t:TG):Prop:=∀ai s(σ:St)H v u Q,Inv X ai σ H s->RelV v u->t v σ H Q->b_ (bX X.prog X.w) X.A (Ga Jy X.env u) (λ_ s'=>∃aS H',Inv X ai aS H' s'/\Q aS H') X.xe s
def FU(X:Cx)(ts:af Expr)(t:F7):Prop:=∀ai s(σ:St)H vs us Q,Inv X ai σ H s->cJ vs us->t vs σ H Q->b_ (bX X.prog X.w) X.A (assignInOrder ((Dg ts X.env).map (·.2)) us) (λ_ s'=>∃aS H',Inv X ai aS H' s'/\Q aS H') X.xe s
abbrev Qx:=V->V->V->Hp->(Hp->Prop)->Prop
def P5(X:Cx)(t:Qx):Prop:=∀ai s(σ:St)H o i v ov iv u Q,Inv X ai σ H s->RelV o ov->RelV i iv->RelV v u->t o i v H Q->b_ (bX X.prog X.w) X.A (setItem ov iv u) (λ_ s'=>∃H',Inv X ai σ H' s'/\Q H') X.xe s
abbrev Qw:=V->V->Hp->VK->Prop
def Yy(X:Cx)(op:Operator)(t:Qw):Prop:=∀ai s(σ:St)H x y v u Q,Inv X ai σ H s->RelV x v->RelV y u->t x y H Q->b_ (bX X.prog X.w) X.A (Hj op v u) (EP X ai σ Q) X.xe s
section
variable{X:Cx}{pos:gW}
def eI(i:ag):TG:=λv σ H Q=>Q (σ.set i<|L v) H
theorem pg_name(hN:X.N.Nodup)(hi:X.N[i]? =L x)(hx:Loc X.env.scope x)(hf:X.fn x=ao\/X.env.scope.names.lookup x=L .local:=by first|exact .inl J|exact .inr J|assumption):PG X (.Name x pos)<|eI i:=by
 intro ai s σ H v u Q I r h;exact wpAny_assign_Name<|OI I hN hi hx r (λs' I'=>⟨_,H,I',h⟩) hf
def R7:F7:=λvs σ H Q=>vs=[]/\Q σ H
inductive GS(t:TG)(u:F7)(vs:af V)(σ:St)(H:Hp)(Q:St->Hp->Prop):Prop
 |mk:∀v r,vs=v::r->(t v σ H λaS H'=>u r aS H' Q)->GS t u vs σ H Q
theorem BI:FU X [] R7:=by
 intro ai s σ H vs us Q I r h;obtain⟨e,h⟩:=h;subst e;exact assignInOrder_nil ⟨σ,H,I,h⟩
theorem qk(h1:PG X e t)(h2:FU X es u)
 (hs:(Dg (e::es) X.env).map (·.2)=Ga e X.env::(Dg es X.env).map (·.2):=by rfl):FU X (e::es)<|GS t u:=by
 intro ai s σ H vs us Q I r h;obtain⟨v,vr,e1,h⟩:=h;subst e1
 cases r with
 |cons r rr=>
  rw[hs];refine assignInOrder_cons (cn (h1 ai s σ H _ _ _ I r h) λ_ s1⟨Ce,U,I1,q1⟩=>?_);exact h2 ai s1 Ce U _ _ Q I1 rr q1
inductive Lm(K:aq)(n:ag)(t:F7)(v:V)(σ:St)(H:Hp)(Q:St->Hp->Prop):Prop
 |mk:∀a xs,v= .ref a->cH K H a xs->xs.length=n->t xs σ H Q->Lm K n t v σ H Q
theorem BH{k:ag}(hc:X.kj=ao)(h:FU X es t)
 (hn:(Dg es X.env).length=n:=by rfl) (fJ:(Dg es X.env).findIdx? (·.1)=ah:=by rfl):PG X (.Tuple es k pos)<|Lm X.K n t:=by
 intro ai s σ H v u Q I r hw;obtain⟨a,xs,e1,hq,hl,hw⟩:=hw;subst e1
 cases r
 obtain⟨aZ,rv,ht,hz⟩:=I.tuple hq;refine assign_Tuple_tuple (I.ok.hd hc) ht (by simp[hn,<-hl,rv.length]) fJ λh' hx=>?_;have I1:=I.kept (t':=s.toks) λb o e=>hx b o (j_<|ej e) e;exact h ai _ σ H xs _ Q I1 (by simpa using rv) hw
def yT(to ti:TE)(t:Qx):TG:=λv σ H Q=>to σ H λo U=>ti σ U λi H2=>t o i v H2 λH3=>Q σ H3
theorem zJ(ho:PE X o to)(hi:PE X i ti)(hs:P5 X t)
 (ha:∀v,Ga (.Subscript o i pos) X.env v=(do
   let ov<-Bi [v] (dg o X.env);let iv<-Bi [v,ov] (dg i X.env)
   Jp pos
   Bi [v,ov,iv] (setItem ov iv v)
   release [v,ov,iv] []):=by intro _;rfl):PG X (.Subscript o i pos)<|yT to ti t:=by
 intro ai s σ H v u Q I r h;refine dj<|Pa (cn (ho ai s σ H _ I h) λov s1⟨x,U,I1,r1,q1⟩=>?_);refine dj<|Pa (cn (hi ai s1 σ U _ I1 q1) λiv s2⟨y,H2,I2,r2,q2⟩=>?_);refine dj<|Xl (dj<|Pa (cn (hs ai s2 σ H2 x y v ov iv u _ I2 r1 r2 r q2) λ_ s3⟨H3,I3,q3⟩=>?_));exact wpAny_release ⟨σ,H3,I3,q3⟩
def j7(te:TE)(g:TG):TS:=λD σ H=>te σ H λx U=>g x σ U D.nx
theorem zM(he:PE X e te)(hg:PG X tg g)(hs:swapsWithSole [tg] e pos.line X.env=pure aM:=by rfl)(hw:swappedStores [tg] e X.env=pure ah:=by rfl)
 (h1:(Dg [tg] X.env).map (·.2)=[Ga tg X.env]:=by rfl):PS X (.Assign [tg] e pos)<|j7 te g:=by
 intro ai s σ H D I h;refine wpAny_Assign_stores (cn (he ai s σ H _ I h) λv s1⟨x,U,I1,r1,q1⟩=>?_) hs hw;rw[h1];exact cn (hg ai s1 σ U x v _ I1 r1 q1) λ_ s2 q=>q
theorem ps_set(hN:X.N.Nodup)(hi:X.N[i]? =L x)(hx:Loc X.env.scope x)(he:PE X e te)(hs:z7 e (L<|.Name x oO) pos.line X.env=pure aM:=by rfl)(hf:X.fn x=ao\/X.env.scope.names.lookup x=L .local:=by first|exact .inl J|exact .inr J|assumption):PS X (.Assign [.Name x oO] e pos) (j7 te<|eI i):=by
 intro ai s σ H D I h;refine wpAny_Assign_Name (cn (he ai s σ H _ I h) λv s1⟨y,U,I1,r1,q1⟩=>?_) hs;exact OI I1 hN hi hx r1 (λs2 I2=>⟨_,U,I2,q1⟩) hf
def tAug(i:ag)(te:TE)(ti:Qw):TS:=λD σ H=>∃x,σ[i]? =L (L x)/\te σ H λy U=>ti x y U λz H2=>D.nx (σ.set i<|L z) H2
theorem UZ(hN:X.N.Nodup)(hi:X.N[i]? =L x)(hx:Loc X.env.scope x)(he:PE X e te)(ho:Yy X op ti)(hf:X.fn x=ao\/X.env.scope.names.lookup x=L .local:=by first|exact .inl J|exact .inr J|assumption):PS X (.AugAssign (.Name x oO) op e pos)<|tAug i te ti:=by
 intro ai s σ H D I h;obtain⟨v,e1,h⟩:=h;obtain⟨m,hn,hl⟩:=I.hZ;have vis:De X.env.scope x:=by rcases hx with k|k;exact .inl k;exact .inr<|.inl k
 obtain⟨u,r,l⟩:=hl i x v hi e1 vis;refine wpAny_AugAssign_Name ?_;have go:b_ (bX X.prog X.w) X.A (dg e X.env) (λw j6=>b_ (bX X.prog X.w) X.A (Hj op u w) (λr xW=>b_ (bX X.prog X.w) X.A (WC X.env x r) (λ_=>SP X ai D .next) X.xe xW) X.xe j6) X.xe s:=by
  refine cn (he ai s σ H _ I h) λw s1⟨y,U,I1,r1,q1⟩=>?_;refine cn (ho ai s1 σ U v y u w _ I1 r r1 q1) λz s2⟨zv,H2,I2,r2,q2⟩=>?_;exact OI I2 hN hi hx r2 (λs3 I3=>⟨_,H2,I3,q2⟩) hf
 rcases l with⟨hk,hm⟩|⟨hk,c,hc,hcell⟩
 ·exact wpAny_loadName_local I.ok.kind hk hn hm go
 ·rcases hk with hk|hk
  ·exact wpAny_loadName_cell I.ok.kind hk hc hcell go
  ·rcases hx with k|k
   ·have:X.env.scope.names.lookup x=L .free:=hk
    rw[k] at this;cases this
   ·have:X.env.scope.names.lookup x=L .free:=hk
    rw[k] at this;cases this
end
section
variable{X:Cx}{pos:gW}
def OV(c:TT)(tb:TS):TS:=λD σ H=>∃W:ag->St->Hp->Prop,(∃m,W m σ H)/\ ∀m σ H,W m σ H->c σ H λb U=>if b=ao then∃N,(∀aS H',N aS H'-> ∃m',m'<m/\W m' aS H')/\tb {D with nx:=N,ct:=N,bk:=D.nx} σ U else D.nx σ U
theorem M_(hp:Kn (bX X.prog X.w) X.A X.env X.xe)(hc:PT X c tc)(hb:gV X body tb):PS X (.While c body [] pos)<|OV tc tb:=by
 intro ai s σ H D I h;obtain⟨W,⟨m0,w0⟩,turn⟩:=h;refine wpAny_While<|codeAny_whileLoop (λn s'=>∃aS H',Inv X ai aS H' s'/\W n aS H') ?_ m0 ⟨σ,H,I,w0⟩
 rintro n s1 ⟨Ce,U,I1,w1⟩
 refine Cb hp (cn (hc ai s1 Ce U _ I1<|turn n Ce U w1) λb s2⟨H2,I2,q2⟩=>?_)
 cases b with
 |true=>
  obtain⟨N,hN,q2⟩:=q2;refine Cb hp (cn (hb ai s2 Ce H2 _ I2 q2) λf s3 q3=>?_)
  cases f with
  |next=>
   obtain⟨o5,H3,I3,n3⟩:=q3;obtain⟨m',hm,w3⟩:=hN o5 H3 n3;exact⟨m',hm,o5,H3,I3,w3⟩
  |cont=>
   obtain⟨o5,H3,I3,n3⟩:=q3;obtain⟨m',hm,w3⟩:=hN o5 H3 n3;exact⟨m',hm,o5,H3,I3,w3⟩
  |brk=>exact q3
  |ret v=>exact q3
 |false=>
  exact JL ⟨Ce,H2,I2,q2⟩
end
structure It where
 go:ag->Hp->Prop
 tP:ag->Hp->V->Hp->Prop
 me:ag->Hp->Prop
def lA(X:Cx)(ai:af<|ak×eR)(H:Hp)(b:ak):Prop:=H b=ah/\b≠X.env.locals/\b∉X.fs/\(b∈X.ex\/X.gK.heap.objs.size<=b)/\(∀x c,X.env.cells.lookup x=L c->c≠b)/\ ∀p∈X.pn++ai,p.1≠b
theorem Inv.yS{σ:St}{b:ak}(I:Inv X ai σ H s)(hb:s.heap.objs.size<=b)(hn:H' b=ah):lA X ai H' b:=by
 refine⟨hn,uh<|gy I.lt hb,I.nofs hb,.inr<|dN I.sz hb,λx c e z=>?_,λp hp z=>?_⟩
 ·obtain⟨v,q⟩:=I.cell x c e
  exact absurd (gy q.lt (by rw[z];exact hb))<|nr _
 ·exact absurd (gy (ej (I.jn p hp).1) (by rw[z];exact hb))<|nr _
structure sf(P:cO)(w:World)(K:aq)(tg:Expr)(cG:It)(fp:af ak)(it:ak)(tn:ag->b9->Prop):Prop where
 mem:it∈fp
 obj:∀i h,tn i h-> ∀b∈fp,∃o,h.get? b=L o/\ ∀v,o.data≠ .cell v
 keep:∀i h h',tn i h->(∀b∈fp,∀o,h.get? b=L o->h'.get? b=L o)->tn i h'
 item:∀X,X.prog=P->X.w=w->X.K=K->X.kj=ao-> ∀i ai s(σ:St)H E,Inv X ai σ H s->(∀b∈fp,lA X ai H b)->tn i s.heap->cG.go i H->b_ (bX P w) X.A (pyNext<|.ref it) (λr s1=>∃u,r=L u/\b_ (bX P w) X.A (S8 tg (.ref it) u) (λ_ s2=>∃x H',Inv X ai σ H' s2/\RelV x u/\cG.tP i H x H'/\tn (i+1) s2.heap/\ ∀b∈fp,H' b=ah) E s1) E s
 done:∀X,X.prog=P->X.w=w->X.K=K->X.kj=ao-> ∀i ai s(σ:St)H E,Inv X ai σ H s->(∀b∈fp,lA X ai H b)->tn i s.heap->cG.me i H->b_ (bX P w) X.A (pyNext<|.ref it) (λr s1=>r=ah/\Inv X ai σ H s1) E s
 vK:∀A i s Q E,tn i s.heap->Q (.ref it) s->b_ (bX P w) A (pyIter<|.ref it) Q E s
abbrev TI:=St->Hp->(It->Hp->Prop)->Prop
def P4(X:Cx)(ai:af<|ak×eR)(σ:St)(tg:Expr)(R:It->Hp->Prop)(Hn:aH)(s2:c_):Prop:=∃(it:ak)(fp:af ak)(tn:ag->b9->Prop)(cG:It)(H':Hp),Hn= .ref it/\Inv X ai σ H' s2/\sf X.prog X.w X.K tg cG fp it tn/\tn 0 s2.heap/\(∀b∈fp,lA X ai H' b)/\R cG H'
def PI(X:Cx)(tg ik:Expr)(wi:TI):Prop:=∀ai s(σ:St)H R,Inv X ai σ H s->wi σ H R->b_ (bX X.prog X.w) X.A (dg ik X.env) (λv s1=>b_ (bX X.prog X.w) X.A (pyIter v) (P4 X ai σ tg R) X.xe s1) X.xe s
theorem Lo(ho:s.heap.get? it=L o)(hc:o.cls= .type n)(hd:o.data= .fields vs)
 (hn:["enumerate","zip","dict_itemiterator","dict_reverseitemiterator","odict_iterator","itertools.zip_longest","itertools.pairwise"].contains n=aM) (hQ:Q () s):b_ aJ A (S8 tg (.ref it) u) Q E s:=by
 cases tg<;>first
  |exact gg hQ
  |(cases u<;>first
     |exact gg hQ
     |(refine dj (wpAny_load ho ?_)
       rw[hc,hd];show b_ aJ A (if _=ao then _ else _) Q E s;rw[ay (by intro h;rw[hn,Bool.false_and] at h;cases h)]
       exact gg hQ))
def wg(K:aq)(a:ak):It:=⟨λi H=>∃xs x,SqL K H a xs/\xs[i]? =L x,λi H x H'=>H'=H/\ ∀xs,SqL K H a xs->xs[i]? =L x,λi H=>∃xs,SqL K H a xs/\xs.length<=i⟩
def Cn(K:aq)(a:ak):It:=⟨λi H=>∃xs x,cH K H a xs/\xs[i]? =L x,λi H x H'=>H'=H/\ ∀xs,cH K H a xs->xs[i]? =L x,λi H=>∃xs,cH K H a xs/\xs.length<=i⟩
def tY(lo:ae)(n:ag):It:=⟨λi _=>i<n,λi H x H'=>H'=H/\x= .int (lo+i),λi _=>n<=i⟩
theorem turn_list{K:aq}(a it:ak):sf P w K tg (wg K a) [it] it (λi h=>h.IsListIter it a i) where
 mem:=by simp
 obj:=λi h st b hb=>by
  have e:=by simpa using hb
  subst e;obtain⟨o,e,c,d⟩:=st;exact⟨o,e,λv z=>by rw[d] at z;cases z⟩
 keep:=λi h h' st k=>st.at λo e=>k it (by simp) o e
 item:=by
  intro X hP hw hK hc i ai s σ H E I hf st hg;subst hP hw hK;obtain⟨xs,x,hq,hx⟩:=hg;obtain⟨aZ,rv,p,hz⟩:=I.list hq;obtain⟨u,hu,ru⟩:=rv.get hx;obtain⟨f0,f1,f2,f3,f4,f5⟩:=hf it<|by simp
  refine wpAny_pyNext_list_item st p.isList (by simpa using hu) λh' xU sb=>?_;have I1:=I.turned (t':=s.toks) (λb o hb e=>(sb.2 b hb).trans e) f0 f1 f3 f4 f5;obtain⟨o,e,c,d⟩:=id xU;exact⟨u,J,Lo e c d dc ⟨x,H,I1,ru,⟨J,λys hy=>by rw[I.Hu hy hq];exact hx⟩,xU,λb hb=>(hf b hb).1⟩⟩
 done:=by
  intro X hP hw hK hc i ai s σ H E I hf st hg;subst hP hw hK;obtain⟨xs,hq,hx⟩:=hg;obtain⟨aZ,rv,p,hz⟩:=I.list hq;obtain⟨f0,f1,f2,f3,f4,f5⟩:=hf it<|by simp
  have hl:=rv.length;exact wpAny_pyNext_list_end (I.ok.hd hc) st p.isList (by simp;lia) λh' eb=>⟨J,I.turned (λb o hb e=>eb b o hb e) f0 f1 f3 f4 f5⟩
 vK:=λ_ _ _ _ _ st h=>wpAny_pyIter_listiter st h
theorem turn_tuple{K:aq}(a it:ak):sf P w K tg (Cn K a) [it] it (λi h=>h.IsTupleIter it a i) where
 mem:=by simp
 obj:=λi h st b hb=>by
  have e:=by simpa using hb
  subst e;obtain⟨o,e,c,d⟩:=st;exact⟨o,e,λv z=>by rw[d] at z;cases z⟩
 keep:=λi h h' st k=>st.at λo e=>k it (by simp) o e
 item:=by
  intro X hP hw hK hc i ai s σ H E I hf st hg;subst hP hw hK;obtain⟨xs,x,hq,hx⟩:=hg;obtain⟨aZ,rv,p,hz⟩:=I.tuple hq;obtain⟨u,hu,ru⟩:=rv.get hx;obtain⟨f0,f1,f2,f3,f4,f5⟩:=hf it<|by simp
  refine wpAny_pyNext_tuple_item st (show s.heap.IsTuple a aZ.toArray from p) (by simpa using hu) λh' xU sb=>?_;have I1:=I.turned (t':=s.toks) (λb o hb e=>(sb.2 b hb).trans e) f0 f1 f3 f4 f5;obtain⟨o,e,c,d⟩:=id xU;exact⟨u,J,Lo e c d dc ⟨x,H,I1,ru,⟨J,λys hy=>by rw[I.tuple_inj hy hq];exact hx⟩,xU,λb hb=>(hf b hb).1⟩⟩
 done:=by
  intro X hP hw hK hc i ai s σ H E I hf st hg;subst hP hw hK;obtain⟨xs,hq,hx⟩:=hg;obtain⟨aZ,rv,p,hz⟩:=I.tuple hq;obtain⟨f0,f1,f2,f3,f4,f5⟩:=hf it<|by simp
  have hl:=rv.length;exact wpAny_pyNext_tuple_end (I.ok.hd hc) st (show s.heap.IsTuple a aZ.toArray from p) (by simp;omega) λh' eb=>⟨J,I.turned (λb o hb e=>eb b o hb e) f0 f1 f3 f4 f5⟩
 vK:=λ_ _ _ _ _ st h=>wpAny_pyIter_tupleiter st h
theorem turn_range{K:aq}(it:ak)(lo:ae)(n:ag):sf P w K tg (tY lo n) [it] it (λi h=>IsRangeIter h it (lo+i*1) (n-i) 1) where
 mem:=by simp
 obj:=λi h st b hb=>by
  have e:=by simpa using hb
  subst e
  exact⟨_,st,λv z=>by
   have z':=z
   cases z'⟩
 keep:=λi h h' st k=>k it (by simp) _ st
 item:=by
  intro X hP hw hK hc i ai s σ H E I hf st hg;subst hP hw hK;obtain⟨f0,f1,f2,f3,f4,f5⟩:=hf it<|by simp
  have W:=Walks.range (prog:=X.prog) (w:=X.w) (I.ok.hd hc) it lo 1 n;refine W.item i s _ _ hg st λv h' tk hv xU kk=>?_;obtain⟨t,rfl⟩:=hv;have I1:Inv X ai σ H {s with heap:=h',toks:=tk}:=I.turned (λb o hb e=>kk b o (by simpa using hb) e) f0 f1 f3 f4 f5;refine⟨_,J,Lo xU J J dc ⟨.int _,H,I1,⟨t,?_⟩,⟨J,J⟩,xU,λb hb=>(hf b hb).1⟩⟩;rw[FE]
 done:=by
  intro X hP hw hK hc i ai s σ H E I hf st hg;obtain⟨f0,f1,f2,f3,f4,f5⟩:=hf it<|by simp
  exact wpAny_pyNext_range_end (I.ok.hd hc) st (by have:n<=i:=hg;lia) λh' eb=>⟨J,I.turned (λb o hb e=>eb b o hb e) f0 f1 f3 f4 f5⟩
 vK:=λ_ _ _ _ _ st h=>wpAny_pyIter_rangeiter st h
end L2
namespace L2
open PySem PySem.Spec PyProof.Rows
section
variable{X:Cx}{tg:Expr}
inductive PF(K:aq)(x:V)(H:Hp)(R:It->Hp->Prop):Prop
 |mk:∀a,x= .ref a->(∃xs,SqL K H a xs)->R (wg K a) H->PF K x H R
def zf(K:aq)(tl:TE):TI:=λσ H R=>tl σ H λx U=>PF K x U R
def iTup(K:aq)(tl:TE):TI:=λσ H R=>tl σ H λx U=>∃a,x= .ref a/\(∃xs,cH K U a xs)/\R (Cn K a) U
theorem jm(hl:PE X l tl):PI X tg l<|zf X.K tl:=by
 intro ai s σ H R I h;refine cn (hl ai s σ H _ I h) λv s1⟨x,U,I1,r1,q1⟩=>?_;obtain⟨a,e,⟨xs,hq⟩,q⟩:=q1;subst e
 cases r1
 obtain⟨aZ,rv,p,hz⟩:=I1.list hq;refine wpAny_pyIter_list p.isList ?_;refine⟨s1.heap.objs.size,_,_,_,U,J,I1.kept λb o e=>iS _ e,turn_list a _,⟨_,pf _ J,J,J⟩,λb hb=>?_,q⟩;have e:=by simpa using hb
 subst e;exact I1.yS (dQ _) (I1.bL.fresh<|dQ _)
theorem pi_tup(hl:PE X l tl):PI X tg l<|iTup X.K tl:=by
 intro ai s σ H R I h;refine cn (hl ai s σ H _ I h) λv s1⟨x,U,I1,r1,q1⟩=>?_;obtain⟨a,e,⟨xs,hq⟩,q⟩:=q1;subst e
 cases r1
 obtain⟨aZ,rv,p,hz⟩:=I1.tuple hq;refine wpAny_pyIter_tuple (show s1.heap.IsTuple a aZ.toArray from p) ?_;refine⟨s1.heap.objs.size,_,_,_,U,J,I1.kept λb o e=>iS _ e,turn_tuple a _,⟨_,pf _ J,J,J⟩,λb hb=>?_,q⟩;have e:=by simpa using hb
 subst e;exact I1.yS (dQ _) (I1.bL.fresh<|dQ _)
theorem range_it{σ:St}{lo hi:ae}(I:Inv X ai σ H s)(h1: -(2^62)<=lo)(h2:lo<2^62)(h3: -(2^62)<=hi)(h4:hi<2^62)
 (q:R (tY lo (hi-lo).toNat) H):b_ (bX X.prog X.w) X.A (pyIter<|.ref s.heap.objs.size) (P4 X ai σ tg R) E {s with heap:=s.heap.push {cls:=.type "range",data:=.fields #[.int lo t,.int hi u,.int 1 v]},toks:=tk}:=by
 refine wpAny_pyIter_range (IsRange.new ..) (small_one h1 h2 h3 h4) ?_;have I1:Inv X ai σ H {s with heap:=s.heap.push {cls:=.type "range",data:=.fields #[.int lo t,.int hi u,.int 1 v]},toks:=tk}:=I.kept λb o e=>iS _ e
 refine⟨(s.heap.push {cls:=.type "range",data:=.fields #[.int lo t,.int hi u,.int 1 v]}).objs.size,_,_,_,H,J,I1.kept λb o e=>iS _ e,turn_range _ lo (hi-lo).toNat,?_,λb hb=>?_,q⟩
 ·have e1:lo+(0:ag)*1=lo:=by simp
  have e2:((hi-lo).toNat:ag)-(0:ag)=Builtin.Range.rangeSize lo hi 1:=by rw[rangeSize_one];split<;>lia
  rw[e1,e2];exact pf _ J
 ·have e:b=(s.heap.push {cls:=.type "range",data:=.fields #[.int lo t,.int hi u,.int 1 v]}).objs.size:=by simpa using hb
  subst e;exact I1.yS (dQ _) (I1.bL.fresh<|dQ _)
def Hi(ta:TA):TI:=λσ H R=>ta σ H λvs U=>∃j,vs=[.int j]/\ -(2^62)<=j/\j<2^62/\R (tY 0 j.toNat) U
theorem zK(hg:Gl X "range")(hm:X.mg "range"=ah)(ha:PA X [a] ta)(hs:dv [a] X.env=[(aM,dg a X.env)]:=by rfl):PI X tg (.Call (.Name "range" p) [a] [] pos)<|Hi ta:=by
 intro ai s σ H R I h;refine Call_ (D4 I hg hm boot_range<|Kq (cn (ha pos ai s σ H _ I h) λus s1⟨vs,U,I1,r1,q1⟩=>?_) hs J);obtain⟨j,e,q1,q2,q⟩:=q1;subst e
 cases r1 with
 |cons r rr=>
  cases rr
  obtain⟨t,rfl⟩:=r;exact call_range_1 (range_it I1 (by lia) om q1 q2<|by simpa using q)
def WR(wi:TI)(g:TG)(tb:TS):TS:=λD σ H=>wi σ H λcG U=>∃W:ag->ag->St->Hp->Prop,(∃m,W 0 m σ U)/\ ∀i m σ H,W i m σ H->(cG.me i H/\D.nx σ H)\/(cG.go i H/\ ∃N,(∀aS H',N aS H'-> ∃m',m'<m/\W (i+1) m' aS H')/\ ∀x H',cG.tP i H x H'->g x σ H' λde H2=>tb {D with nx:=N,ct:=N,bk:=D.nx} de H2)
def EE(fp:af ak)(h:b9):af<|ak×eR:=fp.filterMap λb=>(h.get? b).map λo=>(b,o)
theorem Hy(hb:b∈fp)(e:h.get? b=L o):(b,o)∈EE fp h:=List.mem_filterMap.mpr ⟨b,hb,by rw[e];rfl⟩
theorem of_pinsAt(hp:p∈EE fp h):p.1∈fp/\h.get? p.1=L p.2:=by
 obtain⟨b,hb,e⟩:=List.mem_filterMap.mp hp
 cases q:h.get? b with
 |none=>rw[q] at e;cases e
 |some o=>
  rw[q] at e;have e':=ny e;subst e';exact⟨hb,q⟩
theorem Inv.M9{σ:St}(I:Inv X ai σ H s)(hf:∀b∈fp,lA X ai H b)(ho:∀b∈fp,∃o,s.heap.get? b=L o/\ ∀v,o.data≠ .cell v):Inv X (ai++EE fp s.heap) σ H s:=I.UW λp hp=>(List.mem_append.mp hp).elim (λz=>I.jn p<|ud _ z) λz=>by
  obtain⟨hb,e⟩:=of_pinsAt z;obtain⟨f0,f1,f2,_⟩:=hf p.1 hb;obtain⟨o,e',d⟩:=ho p.1 hb;rw[e] at e';cases e'
  exact⟨e,f0,f1,f2,d⟩
theorem Inv.Fp{σ:St}(I:Inv X (ai++pl) σ H s):Inv X ai σ H s:=I.UW λp hp=>I.jn p (ud _<|PQ _ hp)
theorem nZ(hp:Kn (bX X.prog X.w) X.A X.env X.xe)(hc:X.kj=ao)(hi:PI X tg ik wi)(hg:PG X tg g)(hb:gV X body tb)
 (hs:∀x,DF ik X.env x=pure x:=by intro _;rfl):PS X (.For tg ik body [] pos)<|WR wi g tb:=by
 intro ai s σ H D I h;refine wpAny_For (cn (hi ai s σ H _ I h) λv s1 h1=>cn h1 λHn s2 h2=>?_) hs;obtain⟨it,fp,tn,cG,H2,e,I2,T,mM,f2,W,⟨m0,w0⟩,turn⟩:=h2;subst e;have rC:∀{H':Hp},(∀b∈fp,H' b=ah)-> ∀b∈fp,lA X ai H' b:=λhn b hb=>⟨hn b hb,(f2 b hb).2⟩;refine codeAny_forLoop_any (λn s'=>∃i aS H',Inv X ai aS H' s'/\tn i s'.heap/\(∀b∈fp,H' b=ah)/\W i n aS H') ?_ m0 ⟨0,σ,H2,I2,mM,λb hb=>(f2 b hb).1,w0⟩
 rintro n s3 ⟨i,o5,H3,I3,B3,fr3,w3⟩
 rcases turn i n o5 H3 w3 with⟨me,qn⟩|⟨go,N,hN,step⟩
 ·refine Cb hp (cn (T.done X J J J hc i ai s3 o5 H3 X.xe I3 (rC fr3) B3 me) λr s4⟨hr,I4⟩=>?_)
  subst hr;exact JL ⟨o5,H3,I4,qn⟩
 ·refine Cb hp (cn (T.item X J J J hc i ai s3 o5 H3 X.xe I3 (rC fr3) B3 go) λr s4⟨u,hr,h4⟩=>?_)
  subst hr;refine Cb hp (cn h4 λ_ s5⟨x,H5,I5,r5,y5,st5,fr5⟩=>?_);have XI:=I5.M9 (rC fr5)<|T.obj _ _ st5;refine Cb hp (cn (hg _ s5 o5 H5 x u _ XI r5<|step x H5 y5) λ_ s6⟨σ6,H6,I6,q6⟩=>?_);refine Cb hp (cn (hb _ s6 σ6 H6 _ I6 q6) λf s7 q7=>?_);have again:∀{rH:St}{H7:Hp},Inv X _ rH H7 s7->N rH H7-> ∃m,m<n/\ ∃i aS H',Inv X ai aS H' s7/\tn i s7.heap/\(∀b∈fp,H' b=ah)/\W i m aS H':=λ{rH H7}I7 n7=>by
   obtain⟨m',hm,w7⟩:=hN rH H7 n7;refine⟨m',hm,i+1,rH,H7,I7.Fp,T.keep _ _ _ st5 λb hb o e=>(I7.jn _<|ud _ (ud _<|Hy hb e)).1,λb hb=>?_,w7⟩;obtain⟨o,e,d⟩:=T.obj _ _ st5 b hb;exact(I7.jn _<|ud _ (ud _<|Hy hb e)).2.1
  cases f with
  |next=>obtain⟨rH,H7,I7,n7⟩:=q7;exact again I7 n7
  |cont=>obtain⟨rH,H7,I7,n7⟩:=q7;exact again I7 n7
  |brk=>obtain⟨rH,H7,I7,q7⟩:=q7;exact⟨rH,H7,I7.Fp,q7⟩
  |ret v=>obtain⟨x7,rH,H7,I7,r7,q7⟩:=q7;exact⟨x7,rH,H7,I7.Fp,r7,q7⟩
end
theorem AY{K:aq}{g:TG}{tb:TS}{D:Ends}(Pv:ag->St->Hp->Prop)(h0:Pv 0 σ H)(hl:∀i σ H,i<=xs.length->Pv i σ H->SqL K H a xs)
 (hs:∀i x σ H,xs[i]? =L x->Pv i σ H->g x σ H λde H2=>tb {D with nx:=Pv<|i+1,ct:=Pv<|i+1,bk:=D.nx} de H2) (hd:∀σ H,Pv xs.length σ H->D.nx σ H):
 ∃W:ag->ag->St->Hp->Prop,(∃m,W 0 m σ H)/\ ∀i m σ H,W i m σ H->((wg K a).me i H/\D.nx σ H)\/((wg K a).go i H/\ ∃N,(∀aS H',N aS H'-> ∃m',m'<m/\W (i+1) m' aS H')/\ ∀x H',(wg K a).tP i H x H'->g x σ H' λde H2=>tb {D with nx:=N,ct:=N,bk:=D.nx} de H2):=by
 refine⟨λi m σ H=>m=xs.length-i/\i<=xs.length/\Pv i σ H,⟨xs.length,by simp,eM _,h0⟩,?_⟩
 rintro i m σ H ⟨rfl,hi,p⟩
 have q:=hl i σ H hi p;by_cases d9:i<xs.length
 ·refine .inr ⟨⟨xs,xs[i],q,by simp[d9]⟩,Pv<|i+1,λaS H' p'=>⟨xs.length-(i+1),(by lia),J,d9,p'⟩,λx H' y=>?_⟩
  obtain⟨e,y⟩:=y;subst e;exact hs i x σ _ (y xs q) p
 ·have e:i=xs.length:=by lia
  subst e;exact .inl ⟨⟨xs,q,dQ _⟩,hd σ H p⟩
theorem for_tup{K:aq}{g:TG}{tb:TS}{D:Ends}(Pv:ag->St->Hp->Prop)(h0:Pv 0 σ H)(hl:∀i σ H,i<=xs.length->Pv i σ H->cH K H a xs)
 (hs:∀i x σ H,xs[i]? =L x->Pv i σ H->g x σ H λde H2=>tb {D with nx:=Pv<|i+1,ct:=Pv<|i+1,bk:=D.nx} de H2) (hd:∀σ H,Pv xs.length σ H->D.nx σ H):
 ∃W:ag->ag->St->Hp->Prop,(∃m,W 0 m σ H)/\ ∀i m σ H,W i m σ H->((Cn K a).me i H/\D.nx σ H)\/((Cn K a).go i H/\ ∃N,(∀aS H',N aS H'-> ∃m',m'<m/\W (i+1) m' aS H')/\ ∀x H',(Cn K a).tP i H x H'->g x σ H' λde H2=>tb {D with nx:=N,ct:=N,bk:=D.nx} de H2):=by
 refine⟨λi m σ H=>m=xs.length-i/\i<=xs.length/\Pv i σ H,⟨xs.length,by simp,eM _,h0⟩,?_⟩
 rintro i m σ H ⟨rfl,hi,p⟩
 have q:=hl i σ H hi p;by_cases d9:i<xs.length
 ·refine .inr ⟨⟨xs,xs[i],q,by simp[d9]⟩,Pv<|i+1,λaS H' p'=>⟨xs.length-(i+1),om,J,d9,p'⟩,λx H' y=>?_⟩
  obtain⟨e,y⟩:=y;subst e;exact hs i x σ _ (y xs q) p
 ·have e:i=xs.length:=by omega
  subst e;exact .inl ⟨⟨xs,q,dQ _⟩,hd σ H p⟩
theorem RY{lo:ae}{g:TG}{tb:TS}{D:Ends}(Pv:ag->St->Hp->Prop)(h0:Pv 0 σ H)
 (hs:∀i σ H,i<n->Pv i σ H->g (.int<|lo+i) σ H λde H2=>tb {D with nx:=Pv<|i+1,ct:=Pv<|i+1,bk:=D.nx} de H2) (hd:∀σ H,Pv n σ H->D.nx σ H):
 ∃W:ag->ag->St->Hp->Prop,(∃m,W 0 m σ H)/\ ∀i m σ H,W i m σ H->((tY lo n).me i H/\D.nx σ H)\/((tY lo n).go i H/\ ∃N,(∀aS H',N aS H'-> ∃m',m'<m/\W (i+1) m' aS H')/\ ∀x H',(tY lo n).tP i H x H'->g x σ H' λde H2=>tb {D with nx:=N,ct:=N,bk:=D.nx} de H2):=by
 refine⟨λi m σ H=>m=n-i/\i<=n/\Pv i σ H,⟨n,by simp,eM _,h0⟩,?_⟩
 rintro i m σ H ⟨rfl,hi,p⟩
 by_cases d9:i<n
 ·refine .inr ⟨d9,Pv<|i+1,λaS H' p'=>⟨n-(i+1),(by lia),J,d9,p'⟩,λx H' y=>?_⟩
  obtain⟨e,y⟩:=y;subst e y;exact hs i σ _ d9 p
 ·have e:i=n:=by lia
  subst e;exact .inl ⟨dQ _,hd σ H p⟩
theorem while_by(Pv:St->Hp->Prop)(μ:St->Hp->ag)(h0:Pv σ H)
 (hs:∀σ H,Pv σ H->c σ H λb U=>if b=ao then tb {D with nx:=λaS H'=>Pv aS H'/\μ aS H'<μ σ H,ct:=λaS H'=>Pv aS H'/\μ aS H'<μ σ H,bk:=D.nx} σ U else D.nx σ U)
 (aV:∀σ H Q Q',(∀b U,Q b U->Q' b U)->c σ H Q->c σ H Q'):OV c tb D σ H:=by
 refine⟨λm σ H=>m=μ σ H/\Pv σ H,⟨_,J,h0⟩,?_⟩
 rintro m σ H ⟨rfl,p⟩
 refine aV σ H _ _ (λb U q=>?_)<|hs σ H p
 cases b with
 |true=>exact⟨_,λaS H' Pd=>by obtain⟨p',l⟩:=Pd;exact⟨_,l,J,p'⟩,q⟩
 |false=>exact q
end L2
namespace L2
open PySem PySem.Spec PyProof.Rows
abbrev R2:=V->V->Hp->VK->Prop
def fY(X:Cx)(f:aH->aH->Sem aH)(r:R2):Prop:=∀ai s(σ:St)H x y v u Q,Inv X ai σ H s->RelV x v->RelV y u->r x y H Q->b_ (bX X.prog X.w) X.A (f v u) (EP X ai σ Q) X.xe s
def KD(X:Cx)(f:aH->Sem aH)(r:V->Hp->VK->Prop):Prop:=∀ai s(σ:St)H x v Q,Inv X ai σ H s->RelV x v->r x H Q->b_ (bX X.prog X.w) X.A (f v) (EP X ai σ Q) X.xe s
def v_(X:Cx)(f:aH)(r:af V->Hp->VK->Prop):Prop:=∀ai s(σ:St)H xs us Q,Inv X ai σ H s->cJ xs us->r xs H Q->b_ (bX X.prog X.w) X.A (call f us) (EP X ai σ Q) X.xe s
def bY(r:R2)(ta tb:TE):TE:=λσ H Q=>ta σ H λx U=>tb σ U λy H2=>r x y H2 Q
def WW(r:V->Hp->VK->Prop)(ta:TE):TE:=λσ H Q=>ta σ H λx U=>r x U Q
inductive rI(C:ae->ae->Prop)(g:ae->ae->V)(x:V)(y:V)(H:Hp)(Q:VK):Prop
 |mk:∀i j,x= .int i->y= .int j->C i j->Q (g i j) H->rI C g x y H Q
inductive gu(g:ae->ae->V)(x:V)(y:V)(H:Hp)(Q:VK):Prop
 |mk:∀i j,x= .int i->y= .int j->Q (g i j) H->gu g x y H Q
inductive rU(g:ae->V)(x:V)(H:Hp)(Q:VK):Prop
 |mk:∀i,x= .int i->Q (g i) H->rU g x H Q
section
variable{X:Cx}{a b c:Expr}{ta tb tc:TE}{pos:gW}
theorem KO(ha:PE X a ta)(hb:PE X b tb){σ:St}{R:V->V->Hp->Prop}(I:Inv X ai σ H s)
 (h:ta σ H λx U=>tb σ U λy H2=>R x y H2) {f:aH->aH->Sem aH}
 (hf:∀v u s2 x y H2,Inv X ai σ H2 s2->RelV x v->RelV y u->R x y H2->b_ (bX X.prog X.w) X.A (f v u) Q X.xe s2):
 b_ (bX X.prog X.w) X.A (dg a X.env) (λv eQ=>b_ (bX X.prog X.w) X.A (dg b X.env) (λu j6=>b_ (bX X.prog X.w) X.A (f v u) Q X.xe j6) X.xe eQ) X.xe s:=by
 refine cn (ha ai s σ H _ I h) λv s1⟨x,U,I1,r1,q1⟩=>?_;refine cn (hb ai s1 σ U _ I1 q1) λu s2⟨y,H2,I2,r2,q2⟩=>?_;exact hf v u s2 x y H2 I2 r1 r2 q2
theorem bO(ho:fY X (nE op) r)(ha:PE X a ta)(hb:PE X b tb):PE X (.BinOp a op b pos)<|bY r ta tb:=by
 intro ai s σ H Q I h;exact wpAny_BinOp (KO ha hb I h λv u s2 x y H2 I2 rx ry q=>ho ai s2 σ H2 x y v u Q I2 rx ry q)
theorem xH(ho:KD X (unaryOp op) r)(ha:PE X a ta):PE X (.UnaryOp op a pos)<|WW r ta:=by
 intro ai s σ H Q I h;exact UnaryOp_ (cn (ha ai s σ H _ I h) λv s1 y19_=>by obtain⟨x,U,I1,r1,q1⟩:=y19_;exact ho ai s1 σ U x v Q I1 r1 q1)
theorem xC{g:ae->ae->ae}
 (rule:∀i j t u s Q E,C i j->Q (.int (g i j) s.toks) {s with toks:=s.toks+1}->b_ (bX X.prog X.w) X.A (f (.int i t)<|.int j u) Q E s):
 fY X f (rI C λi j=>.int<|g i j):=by
 intro ai s σ H x y v u Q I rx ry h;obtain⟨i,j,rfl,rfl,hc,q⟩:=h;obtain⟨t,rfl⟩:=rx;obtain⟨t',rfl⟩:=ry;exact rule i j t t' s _ _ hc ⟨.int _,H,I.mf _,⟨_,J⟩,q⟩
theorem Ie{g:ae->ae->ae}
 (rule:∀i j t u s Q E,Q (.int (g i j) s.toks) {s with toks:=s.toks+1}->b_ (bX X.prog X.w) X.A (f (.int i t)<|.int j u) Q E s):
 fY X f (gu λi j=>.int<|g i j):=by
 intro ai s σ H x y v u Q I rx ry h;obtain⟨i,j,rfl,rfl,q⟩:=h;obtain⟨t,rfl⟩:=rx;obtain⟨t',rfl⟩:=ry;exact rule i j t t' s _ _ ⟨.int _,H,I.mf _,⟨_,J⟩,q⟩
theorem Ew{g:ae->ae->df}
 (rule:∀i j t u s Q E,Q (.bool<|g i j) s->b_ (bX X.prog X.w) X.A (f (.int i t)<|.int j u) Q E s):
 fY X f (gu λi j=>.bl<|g i j):=by
 intro ai s σ H x y v u Q I rx ry h;obtain⟨i,j,rfl,rfl,q⟩:=h;obtain⟨t,rfl⟩:=rx;obtain⟨t',rfl⟩:=ry;exact rule i j t t' s _ _ ⟨.bl _,H,I,J,q⟩
def JS(i j:ae):Prop:=0<j/\j<1073741824
def JT(i j:ae):Prop:=(-(2^64)<i/\i<2^64)\/(-(2^64)<j/\j<2^64)
theorem JT.ok(h:JT i j):IntMulOk i j:=by
 rcases h with⟨h1,h2⟩|⟨h1,h2⟩
 ·exact .of_left<|intBits_le_64 h1 h2
 ·exact .of_right<|intBits_le_64 h1 h2
theorem W7(k:ag):(0:ae)<=2^k:=by
 exact XW _
theorem fC:fY X (nE .Add) (gu λi j=>.int<|i+j):=Ie λ_ _ _ _ _ _ _ q=>add_int q
theorem iy:fY X (nE .Sub) (gu λi j=>.int<|i-j):=Ie λ_ _ _ _ _ _ _ q=>sub_int q
theorem Ey:fY X (nE .Mult) (rI JT λi j=>.int<|i*j):=xC λ_ _ _ _ _ _ _ hc q=>mul_int q hc.ok
theorem Ex:fY X (nE .FloorDiv) (rI JS λi j=>.int<|i/j):=xC λi j _ _ _ _ _ hc q=>by
 have h1:=hc.1;have h2:=hc.2;exact floordiv_int om (by rw[J1 i om];exact q) (.inl<|PyProof.noPylong_small om)
theorem Ih:fY X (nE .Mod) (rI (λ_ j=>0<j) λi j=>.int<|i%j):=xC λi j _ _ _ _ _ hc q=>by
 exact mod_int' (by lia)<|by rw[Int.fmod_eq_emod_of_nonneg i<|by lia];exact q
theorem MY:fY X (nE .RShift) (rI (λ_ j=>0<=j) λi j=>.int<|i/2^j.toNat):=xC λi j _ _ _ _ _ hc q=>
 rshift_int hc<|by rw[J1 i<|W7 _];exact q
theorem op_and:fY X (nE .BitAnd) (gu λi j=>.int<|Builtin.bitAnd i j):=Ie λ_ _ _ _ _ _ _ q=>and_int q
theorem L0:fY X (Hj .Add) (gu λi j=>.int<|i+j):=Ie λ_ _ _ _ _ _ _ q=>iadd_int q
theorem iop_shr:fY X (Hj .RShift) (rI (λ_ j=>0<=j) λi j=>.int<|i/2^j.toNat):=xC λi j _ _ _ _ _ hc q=>
 irshift_int hc<|by rw[J1 i<|W7 _];exact q
theorem unI{g:ae->ae}
 (rule:∀i t s Q E,Q (.int (g i) s.toks) {s with toks:=s.toks+1}->b_ (bX X.prog X.w) X.A (f<|.int i t) Q E s):
 KD X f (rU λi=>.int<|g i):=by
 intro ai s σ H x v Q I rx h;obtain⟨i,rfl,q⟩:=h;obtain⟨t,rfl⟩:=rx;exact rule i t s _ _ ⟨.int _,H,I.mf _,⟨_,J⟩,q⟩
theorem xY:KD X (unaryOp .USub) (rU λi=>.int (-i)):=unI λ_ _ _ _ _ q=>neg_int q
end
def scal:V->V->df
 | .cu,.cu=>ao| .cu,.int _=>ao| .int _,.cu=>ao| .cu,.bl _=>ao| .bl _,.cu=>ao| .cu,.str _=>ao| .str _,.cu=>ao
 | .int _,.int _=>ao| .bl _,.bl _=>ao| .str _,.str _=>ao| .nF _,.nF _=>ao
 | .int _,.str _=>ao| .str _,.int _=>ao| .bl _,.str _=>ao| .str _,.bl _=>ao
 |_,_=>aM
def rNe:R2:=λx y H Q=>scal x y=ao/\Q (.bl<|!decide (x=y)) H
theorem Z8:decide (V.int i=V.int j)=(i==j):=by
 rw[Fx];simp
theorem Z5:decide (V.bl i=V.bl j)=(i==j):=by
 rw[Fx];simp
theorem Z':decide (V.str i=V.str j)=(i==j):=by
 rw[Fx];simp
theorem Z6:decide (V.nF i=V.nF j)=(i.toList==j.toList):=by
 rw[Fx]
 cases i
 cases j
 simp
section
variable{X:Cx}{a b c:Expr}{ta tb tc:TE}{pos:gW}
theorem kN{σ:St}(I:Inv X ai σ H s)(q:Q (.bl k) H)(e:k=k'):EP X ai σ Q (.bool k') s:=by
 subst e;exact⟨.bl k,H,I,J,q⟩
theorem op_ne:fY X (nI .NotEq) rNe:=by
 intro ai s σ H x y v u Q I rx ry h;obtain⟨hs,q⟩:=h
 cases x with
 |cu=>
  cases rx
  cases y with
  |cu=>cases ry;exact PySem.EqNone.ne_none_none (kN I q<|by simp)
  |bl j=>cases ry;exact PySem.EqNone.ne_none_bool (kN I q<|by simp)
  |int j=>obtain⟨t',rfl⟩:=ry;exact PySem.EqNone.ne_none_int (kN I q<|by simp)
  |str j=>obtain⟨t',rfl⟩:=ry;exact PySem.EqNone.ne_none_str (kN I q<|by simp)
  |_=>exact absurd (show aM=ao from hs) vZ
 |bl i=>
  cases rx
  cases y with
  |cu=>cases ry;exact PySem.EqNone.ne_bool_none (kN I q<|by simp)
  |bl j=>cases ry;exact ne_bool (kN I q<|gM not Z5)
  |str j=>obtain⟨t',rfl⟩:=ry;exact PySem.EqMixed.ne_bool_str (kN I q<|by simp)
  |_=>exact absurd (show aM=ao from hs) vZ
 |int i=>
  obtain⟨t,rfl⟩:=rx
  cases y with
  |cu=>cases ry;exact PySem.EqNone.ne_int_none (kN I q<|by simp)
  |int j=>obtain⟨t',rfl⟩:=ry;exact ne_int (kN I q<|gM not Z8)
  |str j=>obtain⟨t',rfl⟩:=ry;exact PySem.EqMixed.ne_int_str (kN I q<|by simp)
  |_=>exact absurd (show aM=ao from hs) vZ
 |str i=>
  obtain⟨t,rfl⟩:=rx
  cases y with
  |cu=>cases ry;exact PySem.EqNone.ne_str_none (kN I q<|by simp)
  |bl j=>cases ry;exact PySem.EqMixed.ne_str_bool (kN I q<|by simp)
  |int j=>obtain⟨t',rfl⟩:=ry;exact PySem.EqMixed.ne_str_int (kN I q<|by simp)
  |str j=>obtain⟨t',rfl⟩:=ry;exact ne_str (kN I q<|gM not Z')
  |_=>exact absurd (show aM=ao from hs) vZ
 |nF i=>
  obtain⟨t,rfl⟩:=rx
  cases y with
  |nF j=>obtain⟨t',rfl⟩:=ry;exact PySem.W.ne_bytes (kN I q<|gM not Z6)
  |_=>exact absurd (show aM=ao from hs) vZ
 |_=>cases y<;>exact absurd (show aM=ao from hs) vZ
theorem lU:fY X (nI .Lt) (gu λi j=>.bl<|decide (i<j)):=Ew λ_ _ _ _ _ _ _ q=>lt_int q
theorem MX:fY X (nI .LtE) (gu λi j=>.bl<|decide (i<=j)):=Ew λ_ _ _ _ _ _ _ q=>le_int q
theorem vh:fY X (nI .Gt) (gu λi j=>.bl<|decide (j<i)):=Ew λ_ _ _ _ _ _ _ q=>gt_int q
theorem xE:fY X (nI .GtE) (gu λi j=>.bl<|decide (j<=i)):=Ew λ_ _ _ _ _ _ _ q=>ge_int q
theorem zG:fY X (nI .Is) λx y H Q=>y= .cu/\Q (.bl<|decide (x= .cu)) H:=by
 intro ai s σ H x y v u Q I rx ry h;obtain⟨rfl,q⟩:=h
 cases ry
 refine is_none_gen<|kN I q ?_
 cases x<;>first
  |(cases rx;rfl)
  |(obtain⟨t,rfl⟩:=rx;rfl)
theorem UN:fY X (nI .IsNot) λx y H Q=>y= .cu/\Q (.bl<|!decide (x= .cu)) H:=by
 intro ai s σ H x y v u Q I rx ry h;obtain⟨rfl,q⟩:=h
 cases ry
 refine isnot_none_gen<|kN I q ?_
 cases x<;>first
  |(cases rx;rfl)
  |(obtain⟨t,rfl⟩:=rx;rfl)
theorem cW(b:Expr)(h:op≠ .In:=by decide)(h2:op≠ .NotIn:=by decide):behindInMarks op b=aM:=by
 have e1:(op==CmpOp.In)=aM:=by cases op<;>first|rfl|exact absurd J h
 have e2:(op==CmpOp.NotIn)=aM:=by cases op<;>first|rfl|exact absurd J h2
 cases b<;>simp[behindInMarks,e1,e2]
theorem kE(ho:fY X (nI op) r)(ha:PE X a ta)(hb:PE X b tb)(hm:behindInMarks op b=aM):PE X (.Compare a [op] [b] pos)<|bY r ta tb:=by
 intro ai s σ H Q I h;exact wpAny_Compare1 (KO ha hb I h λv u s2 x y H2 I2 rx ry q=>ho ai s2 σ H2 x y v u Q I2 rx ry q) hm
def Jx(t:TE):TT:=λσ H Q=>t σ H λx H'=>Cg x H' Q
theorem dD(ho:fY X (nI op) r)(ha:PE X a ta)(hb:PE X b tb)(hm:behindInMarks op b=aM):PT X (.Compare a [op] [b] pos) (Jx<|bY r ta tb):=by
 intro ai s σ H Q I h
 refine wpAny_isTrue_Compare1 (cn (ha ai s σ H _ I h) λv s1⟨x,U,I1,r1,q1⟩=>cn (hb ai s1 σ U _ I1 q1) λu s2⟨y,H2,I2,r2,q2⟩=>
  cn (ho ai s2 σ H2 x y v u _ I2 r1 r2 q2) λc s3⟨z,H3,I3,r3,k,e,q3⟩=>?_) hm
 subst e
 cases r3
 exact Cc ⟨H3,I3,q3⟩
theorem D6:bI<2^63:=by rw[sizeLine_eq];decide
theorem vals1(r:cJ [x] us):∃u,us=[u]/\RelV x u:=by
 cases r with
 |cons r1 r2=>cases r2;exact⟨_,J,r1⟩
theorem vals2(r:cJ [x,y] us):∃u w',us=[u,w']/\RelV x u/\RelV y w':=by
 cases r with
 |cons r1 r2=>
  cases r2 with
  |cons r3 r4=>cases r4;exact⟨_,_,J,r1,r3⟩
theorem Gn:v_ X (.builtin "abs") (λxs H Q=>∃i,xs=[.int i]/\Q (.int (if i<0 then-i else i)) H):=by
 intro ai s σ H xs us Q I r h;obtain⟨i,rfl,q⟩:=h;obtain⟨u,rfl,t,rfl⟩:=vals1 r;exact call_abs_int λu tk=>⟨.int (if i<0 then-i else i),H,I.mf _,⟨_,J⟩,q⟩
theorem ZR(hc:X.kj=ao):v_ X (.builtin "max") (λxs H Q=>∃i j,xs=[.int i,.int j]/\Q (.int (if j>i then j else i)) H):=by
 intro ai s σ H xs us Q I r h;obtain⟨i,j,rfl,q⟩:=h;obtain⟨u,w',rfl,⟨t,rfl⟩,t',rfl⟩:=vals2 r;refine max_two_ints (I.ok.hd hc) λh' tk k=>⟨_,H,I.kept k,?_,q⟩;by_cases hj:j>i
 ·rw[aK hj,aK hj];exact⟨_,J⟩
 ·rw[ay hj,ay hj];exact⟨_,J⟩
end
end L2
namespace L2
open PySem PySem.Spec PyProof.Rows
structure yl(h:b9)(x dx C:ak)(mA:ax->au aH):Prop where
 obj:h.get? x=L (CW C dx)
 ns:h.Ns1 dx mA
 ne:dx≠x
theorem lookIn_ns{h:b9}(n:h.Ns1 dx mA):∃od,h.get? dx=L od/\ ∀gJ,Ks gJ od=L (mA gJ):=by
 obtain⟨o,es,ep,ho,hd,hk,_,hm⟩:=n;refine⟨o,ho,λgJ=>?_⟩;have e:=hm gJ;unfold nsFind DD at e;rw[<-Array.find?_toList] at e;unfold Ks;rw[hd];dsimp only
 split
 ·rename_i y q
  rw[q] at e;exact gM L e
 ·rename_i q
  rw[q] at e;have a:es.toList.any (·.refKey)=aM:=by
   rw[List.any_eq_false];intro y hy;obtain⟨z,t,hkey⟩:=hk y<|Array.mem_toList_iff.mp hy;simp[DictEntry.refKey,hkey]
  have a':¬es.toList.any (·.refKey)=ao:=by rw[a];exact vZ
  rw[ay a'];exact gM L e
theorem yl.Bp(I:yl h x dx C mA):∃od,PySem.W.InstAt h x (CW C dx) C (L od)/\ ∀gJ,Ks gJ od=L (mA gJ):=let⟨od,ho,hl⟩:=lookIn_ns I.ns
 ⟨od,⟨I.obj,J,J,ho⟩,hl⟩
section
variable{prog:cO}{w:World}{A:oj}{E:aH->c_->Prop}{s:c_}{K:aq}{x dx C f:ak}{mA:ax->au aH}{gJ:ax}{v:aH}
theorem get_map(X:K.In s.heap)(I:yl s.heap x dx C mA)(hg:Ku K C gJ=ao)(hh:Qb K C=ao)
 (ha:wy K (.ref C) gJ=L ah) (hv:mA gJ=L v) (Bm:YK v=ao) (h:Q v {s with toks:=s.toks+1}):
 b_ (bX prog w) A (getAttr (.ref x) gJ expr) Q E s:=by
 obtain⟨od,cG,hl⟩:=I.Bp;exact PySem.W.get_value X cG (Qg hg).1 (PySem.W.findObj_own hh ha J<|by rw[hl,hv]) Bm h
theorem get_meth(X:K.In s.heap)(I:yl s.heap x dx C mA)(hg:Ku K C gJ=ao)
 (hf:wy K (.ref C) gJ=L (L<|.ref f)) (ht:Qc K (.ref f)=ao) (hv:mA gJ=ah) (h:Q (.ref f,[.ref x]) s):
 b_ (bX prog w) A (GU (.ref x) gJ pl) Q E s:=by
 obtain⟨od,cG,hl⟩:=I.Bp;exact PySem.W.method_fn X cG (Qg hg).1 (Qg hg).2 hf (beq_iff_eq.mp ht) (by show(Ks gJ od).map (·.isSome)=L aM;rw[hl,hv];rfl) h
theorem set_map(X:K.In s.heap)(I:yl s.heap x dx C mA)
 (hs:wy K (.ref C) "__setattr__"=L (L<|.builtin "object.__setattr__")) (hp:YO K C=ao) (ht:Qh K C gJ=L ah) (hh:Qb K C=ao)
 (hw:Qi mA ns) (nR:ns.length<=bI)
 (h:∀h',yl h' x dx C (λy=>if y=gJ then L v else mA y)->FC dx s.heap h'->Q () {s with heap:=h',toks:=s.toks+2}):
 b_ (bX prog w) A (setAttr (.ref x) gJ v) Q E s:=by
 obtain⟨od,cG,hl⟩:=I.Bp;refine PySem.W.set_plain X cG hs (PySem.W.osa_open X cG hp ht λb=>?_);obtain⟨cd,hc,hd'⟩:=PySem.W.any_some hh;have hx:=I.obj;refine dj (gg<|dj (dj<|wpAny_loadPart hx (dj<|PySem.W.Looks.here (PySem.W.looks_clsIn X hc) ?_)));rw[hd'];refine gg<|dj (gg<|dj ?_);refine wpAny_nsSet1 I.ns λh' Bh Hd=>?_;obtain⟨oD,esD,epD,hoD,hdD,hcD⟩:=Bh.count<|PySem.Within.cons gJ v hw;refine dj<|wpAny_lookBehind hoD (by rw[hdD];exact pastItsLine_dict<|dN hcD (by simp[yj];lia)) ?_;exact gg (h _ ⟨(Hd.2 _<|dB I.ne).trans I.obj,Bh,I.ne⟩ Hd)
theorem make_map(X:K.In s.heap)(hm:YN K C=ao)
 (hi:wy K (.ref C) "__init__"=L (L<|.ref f)) (hf:PySem.W.typeIn K (.ref f)=L (.type "function"))
 (h:uD (bX prog w) (A.under<|.builtin "type.__call__" ⟨.ref C::vs,kw⟩) (.call (.ref f) ⟨.ref (s.heap.objs.size+1)::vs,kw⟩) (PySem.W.InitBack (s.heap.objs.size+1) R)
   {s with heap:=(s.heap.push As).push (CW C s.heap.objs.size)}):
 uD (bX prog w) A (.call (.ref C) ⟨vs,kw⟩) R s:=by
 exact PySem.W.make_core (PySem.W.makes_of X hm) (PySem.W.looks_findIn X hi) (λvK=>PySem.W.bind_fn X vK hf) (.inl J) h
end
def aY(f:ax)(v:V):af (ax×V)->af (ax×V)
 |[]=>[(f,v)]
 |(g,x)::r=>if g=f then(g,v)::r else(g,x)::aY f v r
theorem du(f g:ax)(v:V):∀fs,(aY f v fs).lookup g=if g=f then L v else fs.lookup g
 |[]=>by
  show yk g [_]=_;by_cases h:g=f
  ·have hb:=beq_iff_eq.mpr h
   simp[yk,hb,aK h]
  ·have hb:=beq_eq_false_iff_ne.mpr h
   simp[yk,hb,ay h]
 |(k,x)::r=>by
  have ih:=du f g v r;rw[show aY f v _=(if k=f then(k,v)::r else(k,x)::aY f v r) from J];by_cases hk:k=f
  ·rw[aK hk]
   by_cases h:g=k
   ·have hb:=beq_iff_eq.mpr h
    simp[yk,hb,aK<|h.trans hk]
   ·have hb:=beq_eq_false_iff_ne.mpr h
    simp[yk,hb,ay λe:g=f=>h<|e.trans hk.symm]
  ·rw[ay hk]
   by_cases h:g=k
   ·have hb:=beq_iff_eq.mpr h
    simp[yk,hb,ay λe=>hk<|h.symm.trans e]
   ·have hb:=beq_eq_false_iff_ne.mpr h
    simp[yk,hb];exact ih
theorem L3(f:ax)(v:V):∀fs,f∈(aY f v fs).map (·.1)/\ ∀g,g∈fs.map (·.1)->g∈(aY f v fs).map (·.1)
 |[]=>⟨by simp[aY],λg h=>by simp at h⟩
 |(k,x)::r=>by
  obtain⟨i1,i2⟩:=L3 f v r;rw[show aY f v _=(if k=f then(k,v)::r else(k,x)::aY f v r) from J];by_cases hk:k=f
  ·rw[aK hk]
   subst hk;exact⟨by simp,λg h=>by simpa using h⟩
  ·rw[ay hk]
   refine⟨?_,λg h=>?_⟩
   ·rw[kK]
    exact gD _ i1
   ·rw[kK] at h⊢
    rcases List.mem_cons.mp h with e|e
    ·exact List.mem_cons.mpr (.inl e)
    ·exact gD _ (i2 g e)
theorem S6(f:ax)(v:V):∀fs,(aY f v fs).length<=fs.length+1
 |[]=>by simp[aY]
 |(k,x)::r=>by
  have ih:=S6 f v r;rw[show aY f v _=(if k=f then(k,v)::r else(k,x)::aY f v r) from J];by_cases hk:k=f
  ·rw[aK hk,yj,yj];lia
  ·rw[ay hk,yj,yj];lia
theorem lG.NZ(r:lG (L v) o):∃u,o=L u/\RelV v u:=by
 cases o with
 |none=>exact(show e_ from r).elim
 |some u=>exact⟨u,J,r⟩
theorem lG.none_of(r:lG ah o):o=ah:=by
 cases o with
 |none=>rfl
 |some u=>exact(show e_ from r).elim
theorem handed_of(r:RelV v u):YK u=ao:=by
 cases v with
 |cu=>cases(show u=Dd from r);rfl
 |bl b=>cases(show u=Dc b from r);rfl
 |int i=>obtain⟨t,e⟩:=(show∃t,u=KG i t from r);cases e;rfl
 |str x=>obtain⟨t,e⟩:=(show∃t,u=KH x t from r);cases e;rfl
 |nF b=>obtain⟨t,e⟩:=(show∃t,u=YY b t from r);cases e;rfl
 |GQ b=>obtain⟨t,e⟩:=(show∃t,u=YZ b t from r);cases e;rfl
 |ref a=>cases(show u=kg a from r);rfl
 |ty n=>cases(show u=AJ n from r);rfl
section
variable{P:cO}{w:World}{H H':Hp}{h h':b9}{a C dx:ak}{fs jI:af (ax×V)}
theorem LZ(bL:eK P w H h)(e:H a=L (.ins C dx fs)):∃mA,yl h a dx C mA/\(∀f,lG (fs.lookup f)<|mA f)/\Qi mA (fs.map (·.1))/\fs.length<=1000/\H dx=L (.own a):=by
 obtain⟨d,z,ne,ob,mA,n,r,q⟩:=(show gU P w H h a (.ins C dx fs) from bL a _ e);exact⟨mA,⟨ob,n,ne⟩,r,q,z,d⟩
end
structure j8(K:aq)(C:ak):Prop where
 pg:Ku K C Str.empty=ao
 hd:Qb K C=ao
 po:YO K C=ao
 sa:wy K (.ref C) "__setattr__"=L (L<|.builtin "object.__setattr__")
theorem j8.get{K:aq}(c:j8 K C)(f:ax):Ku K C f=ao:=c.pg
def iD(K:aq)(C:ak)(f:ax):Prop:=wy K (.ref C) f=L ah
theorem iD.taker{K:aq}(n:iD K C f):Qh K C f=L ah:=by
 unfold Qh;rw[show wy K _ f=L ah from n];rfl
structure pq(K:aq)(C:ak)(m:ax)(f:ak):Prop where
 at_:wy K (.ref C) m=L (L<|.ref f)
 fn:Qc K (.ref f)=ao
 kp:jx K (.ref f)=ao
section
variable{X:Cx}{ai:af (ak×eR)}{σ:St}{H:Hp}{s:c_}{a C dx:ak}{fs:af (ax×V)}{f:ax}{v:V}{A:oj}{E:aH->c_->Prop}
theorem Sb(I:Inv X ai σ H s)(e:H a=L (.ins C dx fs))(c:j8 X.K C)(n:iD X.K C f)(l:fs.lookup f=L v)
 (h:∀u s',Inv X ai σ H s'->RelV v u->Q u s'):b_ (bX X.prog X.w) A (getAttr (.ref a) f b) Q E s:=by
 obtain⟨mA,je,r,_,_,_⟩:=LZ I.bL e;obtain⟨u,hu,ru⟩:=lG.NZ (by rw[<-l];exact r f);exact get_map I.iM je (c.get f) c.hd n hu (handed_of ru)<|h u _ (I.mf _) ru
theorem Ln(I:Inv X ai σ H s)(e:H a=L (.ins C dx fs))(c:j8 X.K C)(k:pq X.K C m g)(l:fs.lookup m=ah)
 (h:Q (.ref g,[.ref a]) s):b_ (bX X.prog X.w) A (GU (.ref a) m pl) Q E s:=by
 obtain⟨mA,je,r,_,_,_⟩:=LZ I.bL e;have hn:=lG.none_of (by rw[<-l];exact r m);exact get_meth I.iM je (c.get m) k.at_ k.fn hn h
theorem VW(I:Inv X ai σ H s)(e:H a=L (.ins C dx fs))(c:j8 X.K C)(n:iD X.K C f)(hl:fs.length<1000)(ry:RelV y u)
 (h:∀s',Inv X ai σ (aC H a (.ins C dx<|aY f y fs)) s'->Q () s'):b_ (bX X.prog X.w) A (setAttr (.ref a) f u) Q E s:=by
 obtain⟨mA,je,r,wi,_,ho⟩:=LZ I.bL e;have hz:(fs.map (·.1)).length<=bI:=by rw[ie,sizeLine_eq];lia
 refine set_map I.iM je c.sa c.po n.taker c.hd wi hz λh' O' sb=>h _ ?_;have hd:∃o,h'.get? dx=L o:=let⟨o,_,_,e',_⟩:=O'.ns;⟨o,e'⟩;refine I.vV (by rw[e];exact C_) (.inr ho) (λb q hb z=>(sb.2 b hb).trans z) hd ?_;refine⟨by rw[bJ je.ne];exact ho,?_,je.ne,O'.obj,_,O'.ns,λg=>?_,λg hg=>?_⟩
 ·have:=S6 f y fs;lia
 ·show lG _ (if g=f then L u else mA g)
  rw[du];by_cases q:g=f
  ·rw[aK q,aK q];exact ry
  ·rw[ay q,ay q];exact r g
 ·by_cases q:g=f
  ·rw[q];exact(L3 f y fs).1
  ·refine(L3 f y fs).2 g (wi g λz=>hg ?_)
   show(if g=f then L u else mA g)=ah;rw[ay q];exact z
theorem Inv.made(I:Inv X ai σ H s):Inv X ai σ (aC (aC H s.heap.objs.size (.own<|s.heap.objs.size+1)) (s.heap.objs.size+1)<|.ins C s.heap.objs.size [])
 {s with heap:=(s.heap.push As).push (CW C s.heap.objs.size)}:=by
 have e1:(s.heap.push As).get? s.heap.objs.size=L As:=pf s.heap J;have e2:=by
  have:=pf (s.heap.push As) (o:=CW C s.heap.objs.size) J;rwa[ph] at this
 have e3:(s.heap.push As).Ns s.heap.objs.size λ_=>ah:=⟨As,#[],_,e1,J,(λe he=>absurd he<|by simp),λ_=>J⟩;have I1:=I.kR (o:=.own<|s.heap.objs.size+1) (t':=s.toks) (λb u q=>iS _ q) (dQ _) ⟨_,e1⟩;refine I1.kR (λb u q=>iS _ q) (CA<|ph _ _) ?_;have ne:s.heap.objs.size≠s.heap.objs.size+1:=j_<|FP _;refine⟨by rw[bJ ne,bw],eM _,ne,e2,λ_=>ah,(Heap.Ns1.of_empty e3).at λo q=>iS _ q,λ_=>C_,λy hy=>absurd J hy⟩
theorem ZA(hb:Gb e f env (dg e env)=dg e env)
 (h:b_ (bX prog w) A (dg e env) (λo eQ=>b_ (bX prog w) A (getAttr o f ao) Q E eQ) E s):b_ (bX prog w) A (dg (.Attribute e f pos) env) Q E s:=Attribute_any_ h<|by simp[arm_eval_Attribute,hb]
end
inductive Pr(K:aq)(f:ax)(x:V)(H:Hp)(Q:VK):Prop
 |mk:∀a C dx fs v,x= .ref a->H a=L (.ins C dx fs)->j8 K C->iD K C f->fs.lookup f=L v->Q v H->Pr K f x H Q
def c9(K:aq)(ta:TE)(f:ax):TE:=λσ H Q=>ta σ H λx U=>Pr K f x U Q
inductive Qu(K:aq)(f:ax)(y x:V)(H:Hp)(Q:Hp->Prop):Prop
 |mk:∀a C dx fs,x= .ref a->H a=L (.ins C dx fs)->j8 K C->iD K C f->fs.length<1000->Q (aC H a (.ins C dx<|aY f y fs))->Qu K f y x H Q
def xN(K:aq)(ta tv:TE)(f:ax):TS:=λD σ H=>tv σ H λy U=>ta σ U λx H2=>Qu K f y x H2<|D.nx σ
def XJ(X:Cx)(op:Operator)(rd:V->V->Hp->VK->Prop):Prop:=∀ai s(σ:St)H x y u v Q,Inv X ai σ H s->RelV x u->RelV y v->rd x y H Q->b_ (bX X.prog X.w) X.A (Hj op u v) (EP X ai σ Q) X.xe s
def sFldAug(K:aq)(ta tv:TE)(rd:V->V->Hp->VK->Prop)(f:ax):TS:=λD σ H=>ta σ H λx U=>∃a C dx fs v,x= .ref a/\U a=L (.ins C dx fs)/\j8 K C/\iD K C f/\fs.lookup f=L v/\tv σ U λy H2=>rd v y H2 λz H3=>∃pQ jI,H3 a=L (.ins C pQ jI)/\jI.length<1000/\D.nx σ (aC H3 a (.ins C pQ<|aY f z jI))
section
variable{X:Cx}{o e jO:Expr}{f:ax}{pos oO z9:gW}{ta tv:TE}
theorem pe_fld(he:PE X e ta)(hb:Gb e f X.env (dg e X.env)=dg e X.env):PE X (.Attribute e f pos)<|c9 X.K ta f:=by
 intro ai s σ H Q I h;refine ZA hb (cn (he ai s σ H _ I h) λu s1⟨x,U,I1,rx,a,C,dx,fs,v,ex,ea,c,n,l,q⟩=>?_);subst ex;obtain rfl:u=kg a:=rx;exact Sb I1 ea c n l λu' s2 I2 ru=>⟨v,U,I2,ru,q⟩
theorem dM(ha:PE X o ta)(hv:PE X jO tv)(hs:z7 jO (L<|.Attribute o f oO) pos.line X.env=pure aM):PS X (.Assign [.Attribute o f oO] jO pos)<|xN X.K ta tv f:=by
 intro ai s σ H D I h;refine plainObj_wpAny_Assign_Attribute (cn (hv ai s σ H _ I h) λu s1⟨y,U,I1,ry,q⟩=>cn (ha ai s1 σ U _ I1 q) λov s2⟨x,H2,I2,rx,a,C,dx,fs,ex,ea,c,n,l,q2⟩=>?_) hs;subst ex;obtain rfl:ov=kg a:=rx;exact VW I2 ea c n l ry λs3 I3=>⟨σ,_,I3,q2⟩
theorem U1(ha:PE X o ta)(hv:PE X jO tv)(hop:XJ X op rd):PS X (.AugAssign (.Attribute o f z9) op jO pos)<|sFldAug X.K ta tv rd f:=by
 intro ai s σ H D I h;refine wpAny_AugAssign_AttributeAny (cn (ha ai s σ H _ I h) λov s1⟨x,U,I1,rx,a,C,dx,fs,v,ex,ea,c,n,l,q⟩=>?_);subst ex;obtain rfl:ov=kg a:=rx;refine Sb I1 ea c n l λu s2 I2 ru=>cn (hv ai s2 σ U _ I2 q) λw3 s3⟨y,H2,I3,ry,q3⟩=>cn (hop ai s3 σ H2 v y u w3 _ I3 ru ry q3) λw4 s4⟨z,H3,I4,rz,pQ,jI,ea',l',q4⟩=>?_;exact VW I4 ea' c n l' rz λs5 I5=>⟨σ,_,I5,q4⟩
end
end L2
namespace L2
open PySem PySem.Spec PyProof.Rows
structure eF(k:ag)(A:oj):Prop where
 hd:A.handled=ah
 dp:A.depth+3*k+5<Nj
 un:A.units+16*k+200<oA
theorem eF.aV(r:eF k A)(h:j<=k):eF j A:=⟨r.hd,by have:=r.dp;lia,by have:=r.un;lia⟩
theorem eF.deeper(r:eF (k+1) A)(env:j9):eF k<|A.deeper env:=⟨r.hd,by have:=r.dp;show A.depth+1+3*k+5<_;lia,by have:=r.un;show A.units+3+16*k+200<_;lia⟩
theorem make_depth{A:oj}:(A.under<|.builtin "type.__call__" ⟨.ref C::us,kw⟩).depth=A.depth+1:=by
 first|rfl|simp[Pj,Code.weight,Code.isCreation,Code.isGuard,Code.isCaller,Code.frames,Code.isFrame,guardIds]
theorem make_units{A:oj}:(A.under<|.builtin "type.__call__" ⟨.ref C::us,kw⟩).units=A.units+1:=by
 first|rfl|simp[Pj,Code.cUnits,Code.frames,Code.isFrame]
theorem eF.Mg(r:eF (k+1) A)(C:ak)(us:af aH)(kw:af<|ax×aH):eF k (A.under<|.builtin "type.__call__" ⟨.ref C::us,kw⟩):=⟨r.hd,by have:=r.dp;rw[make_depth];lia,by have:=r.un;rw[make_units];lia⟩
theorem eF.depth(r:eF k A):A.depth<Nj:=by have:=r.dp;lia
theorem eF.units(r:eF k A):A.units+64<oA:=by have:=r.un;lia
def b8:TA:=λ_ H Q=>Q [] H
def aU(ta:TE)(tr:TA):TA:=λσ H Q=>ta σ H λx U=>tr σ U λxs H2=>Q (x::xs) H2
section
variable{X:Cx}{e:Expr}{es:af Expr}{te:TE}{t:TA}{pos:gW}
theorem vm:PA X [] b8:=λ_ _ _ _ H Q I h=>XD ⟨[],H,I,.nil,h⟩
theorem dC(ha:PE X e te)(hr:PA X es t)(hs:dv (e::es) X.env=(aM,dg e X.env)::dv es X.env:=by rfl):PA X (e::es)<|aU te t:=by
 intro pos ai s σ H Q I h;rw[hs];refine XC (cn (ha ai s σ H _ I h) λu s1⟨x,U,I1,r1,q1⟩=>?_);exact cn (hr pos ai s1 σ U _ I1 q1) λus s2 Pd=>by obtain⟨xs,H2,I2,r2,q2⟩:=Pd;exact⟨x::xs,H2,I2,.cons r1 r2,q2⟩
def lq(t:TA):TE:=λσ H Q=>t σ H λxs U=>xs.length<=bI/\ ∀p,U p=ah->Q (.ref p) (aC U p<|.tup xs)
def Jv(t:TA):TE:=λσ H Q=>t σ H λxs U=>xs.length<=bI/\ ∀p,U p=ah->Q (.ref p) (aC U p<|.lst xs)
theorem fV(h:PA X es t):PE X (.Tuple es x1 pos)<|lq t:=by
 intro ai s σ H Q I hq;refine wpAny_Tuple_spliced (cn (h pos ai s σ H _ I hq) λus s1⟨xs,U,I1,r,z,q⟩=>⟨by rw[<-r.length];exact z,?_⟩);have hf:=I1.bL.fresh<|dQ _;refine⟨.ref s1.heap.objs.size,aC U s1.heap.objs.size<|.tup xs,I1.kR (λb u e=>iS _ e) (dQ _) ?_,J,q _ hf⟩;exact⟨z,us,r,_,pf _ J,J,_,J⟩
theorem gr(h:PA X es t):PE X (.List es pos)<|Jv t:=by
 intro ai s σ H Q I hq;refine wpAny_List_spliced (cn (h pos ai s σ H _ I hq) λus s1⟨xs,U,I1,r,z,q⟩=>⟨by rw[<-r.length];exact z,?_⟩);have hf:=I1.bL.fresh<|dQ _;refine⟨.ref s1.heap.objs.size,aC U s1.heap.objs.size<|.lst xs,I1.kR (λb u e=>iS _ e) (dQ _) ?_,J,q _ hf⟩;exact⟨z,us,0,r,pf _ J⟩
end
abbrev Sp:=af V->Hp->VK->XK->Prop
abbrev o8:=af j9->Hp->c_->XK->aH->c_->Prop
structure tV(P:cO)(w:World)(K:aq)(mg:ax->au aH)(base:b9)(A:oj)(bA:af j9)(s:c_)(H:Hp):Prop where
 frames:A.frames=L bA
 mod:Mod K mg base
 bs:∀b o,base.get? b=L o->s.heap.get? b=L o/\H b=ah
 qI:base.objs.size<=s.heap.objs.size
 lM:s.heap.FunFrames base bA
 uG:∀b∈fg bA,H b=ah
 bL:eK P w H s.heap
 eG:tQ s.gens
inductive CE(bA:af j9)(P:cO)(w:World)(H:Hp)(s:c_)(Q:VK)(u:aH)(s':c_):Prop
 |mk:∀v H',s'.os=s.os->tQ s'.gens->Un (fg bA) [] H H' s.heap s'.heap->eK P w H' s'.heap->RelV v u->Q v H'->CE bA P w H s Q u s'
def CR(CX:o8)(bA:af j9)(P:cO)(w:World)(H:Hp)(s:c_)(Q:VK)(E:XK)(r:Result)(s':c_):Prop:=match r with
 | .ok (.ret u)=>CE bA P w H s Q u s'
 | .ok _=>e_
 | .error e=>CX bA H s E e s'
structure aD(P:cO)(w:World)(K:aq)(mg:ax->au aH)(base:b9)(CX:o8)(k:ag)(f:ak)(fd:c7)(ps:af ax)(sp:Sp):Prop where
 bH:∀vs H Q E,sp vs H Q E->vs.length=ps.length
 run:∀A bA s H kh us vs Q E,eF k A->tV P w K mg base A bA s H->yc s fd kh (ps.zip us)->cJ vs us->sp vs H Q E->uD (bX P w) A (.call (.ref f) kh) (CR CX bA P w H s Q E) s
theorem aD.aV{K:aq}(F:aD P w K mg base CX j f fd ps sp)(h:j<=k):aD P w K mg base CX k f fd ps sp:=⟨F.bH,λA bA s H kh us vs Q E hr=>F.run A bA s H kh us vs Q E<|hr.aV h⟩
theorem aD.imp{K:aq}(F:aD P w K mg base CX k f fd ps sp)
 (h:∀vs H Q E,sp' vs H Q E->sp vs H Q E):aD P w K mg base CX k f fd ps sp':=⟨λvs H Q E q=>F.bH vs H Q E<|h _ _ _ _ q,λA bA s H kh us vs Q E hr he hb hv hs=>F.run A bA s H kh us vs Q E hr he hb hv<|h _ _ _ _ hs⟩
theorem tV.Mg{K:aq}(e:tV P w K mg base A bA s H)(C:ak)(us:af aH)(kw:af<|ax×aH):tV P w K mg base (A.under<|.builtin "type.__call__" ⟨.ref C::us,kw⟩) bA s H:=⟨by first|exact e.frames|(simpa [Pj,Code.envs,Code.isFrame,pushEnvs] using e.frames),e.mod,e.bs,e.qI,e.lM,e.uG,e.bL,e.eG⟩
section
variable{X:Cx}{ai:af (ak×eR)}{σ:St}{H:Hp}{s s':c_}
theorem Inv.GH(I:Inv X ai σ H s):tV X.prog X.w X.K X.mg X.base X.A X.stack s H:=⟨I.ok.frames,I.ok.mod,I.bs,dN I.ok.qI I.sz,I.stack,I.OH,I.bL,I.eG⟩
theorem Inv.F8(I:Inv X ai σ H s)(h:CE X.stack X.prog X.w H s Q u s'):EP X ai σ Q u s':=by
 obtain⟨v,H',os,eG,un,bL,r,q⟩:=h;obtain⟨hh,g,d,t,os'⟩:=s';obtain rfl:os'=s.os:=os;exact⟨v,H',I.call un bL eG λb z=>absurd z<|by simp,r,q⟩
end
def d_(sp:Sp)(iW:af V)(E:XK)(t:TA):TE:=λσ H Q=>t σ H λvs U=>sp (vs++iW) U Q E
inductive PV(C:ak)(m:ax)(x:V)(H:Hp)(G:Prop):Prop
 |mk:∀a dx fs,x= .ref a->H a=L (.ins C dx fs)->fs.lookup m=ah->G->PV C m x H G
def eE(C:ak)(m:ax)(sp:Sp)(iW:af V)(E:XK)(ta:TE)(t:TA):TE:=λσ H Q=>ta σ H λx U=>PV C m x U (t σ U λvs H2=>sp (x::(vs++iW)) H2 Q E)
def OQ(C:ak)(sp:Sp)(iW:af V)(E:XK)(t:TA):TE:=λσ H Q=>t σ H λvs U=>∀x dx,U x=ah->U dx=ah->dx≠x->sp (.ref x::(vs++iW)) (aC (aC U dx<|.own x) x<|.ins C dx []) (λv H2=>v= .cu/\Q (.ref x) H2) E
def Binds(K:aq)(fd:c7)(ps:af ax)(ds:af aH):Prop:=∀s us,K.In s.heap->(us++ds).length=ps.length->yc s fd ⟨us,[]⟩ (ps.zip<|us++ds)
theorem Binds.all{K:aq}(h:∀us,us.length=ps.length->uA fd ⟨us,[]⟩=pure (ps.zip us)):Binds K fd ps []:=λs us _ hl=>by
 rw[pj] at hl⊢;exact .of_eq<|h us hl
def mq(CX:o8)(X:Cx)(E:XK):Prop:=∀ai(σ:St)H s e s',Inv X ai σ H s->CX X.stack H s E e s'->X.xe e s'
section
variable{X:Cx}{CX:o8}{k:ag}{f C:ak}{fd:c7}{ps:af ax}{sp:Sp}{iW:af V}{ds:af aH}{E:XK}{x m:ax}{p pos lH:gW}{e o:Expr}{es:af Expr}{ta:TE}{t:TA}
theorem BP{σ:St}(F:aD X.prog X.w X.K X.mg X.base CX k f fd ps sp)(hr:eF k X.A)(hb:Binds X.K fd ps ds)(hd:cJ iW ds)(hx:mq CX X E)
 (I:Inv X ai σ H s) (r:cJ vs us) (h:sp (vs++iW) H Q E):b_ (bX X.prog X.w) X.A (call (.ref f) us) (EP X ai σ Q) X.xe s:=by
 have r2:=r.append hd;have hl:(us++ds).length=ps.length:=by rw[<-r2.length];exact F.bH _ _ _ _ h
 refine O_ (yN (F.run X.A X.stack s H ⟨us,[]⟩ _ _ Q E hr I.GH (hb s us I.iM hl) r2 h) λr s' hq=>?_)
 cases r with
 |error e=>exact hx ai σ H s e s' I hq
 |ok fl=>
  cases fl with
  |ret u=>exact I.F8 hq
  |next=>exact ic hq
  |brk=>exact ic hq
  |cont=>exact ic hq
theorem cM(F:aD X.prog X.w X.K X.mg X.base CX k f fd ps sp)(hr:eF k X.A)(hg:Gl X x)(hm:X.mg x=L (.ref f))(hk:jx X.K (.ref f)=ao)(hb:Binds X.K fd ps ds)(hd:cJ iW ds)(hx:mq CX X E)
 (ha:PA X (e::es) t) (oI:(x=="__debug__")=aM:=by decide) (he:dv (e::es) X.env=(aM,dg e X.env)::dv es X.env:=by rfl) (fw:(jC pos<|dv es X.env).any (·.1)=aM:=by rfl):
 PE X (.Call (.Name x p) (e::es) [] pos)<|d_ sp iW E t:=by
 intro ai s σ H Q I h;refine Fu<|zl I hg hm ?_ oI;refine Ar I.ok.mod.sV hk (cn (ha pos ai s σ H _ I h) λus s1⟨vs,U,I1,r,q⟩=>⟨I1.iM,?_⟩) he fw;exact BP F hr hb hd hx I1 r q
theorem Ij(F:aD X.prog X.w X.K X.mg X.base CX k f fd ps sp)(hr:eF k X.A)(hg:Gl X x)(hm:X.mg x=L (.ref f))(hk:jx X.K (.ref f)=ao)(hb:Binds X.K fd ps ds)(hd:cJ iW ds)(hx:mq CX X E)
 (oI:(x=="__debug__")=aM:=by decide):PE X (.Call (.Name x p) [] [] pos)<|d_ sp iW E b8:=by
 intro ai s σ H Q I h;refine Fu<|zl I hg hm ?_ oI;exact YH I.iM hk<|BP F hr hb hd hx I .nil h
theorem bW{pl:Sem df}(he:PE X o ta)(c:j8 X.K C)(hm:pq X.K C m f)(F:aD X.prog X.w X.K X.mg X.base CX k f fd ps sp)(hr:eF k X.A)(hb:Binds X.K fd ps ds)(hd:cJ iW ds)(hx:mq CX X E)(ha:PA X (e::es) t)
 (fJ:dv (e::es) X.env=(aM,dg e X.env)::dv es X.env:=by rfl) (fw:(jC pos<|dv es X.env).any (·.1)=aM:=by rfl)
 (ht:dg (.Call (.Attribute o m lH) (e::es) [] pos) X.env=(do
   let ov<-dg o X.env
   Jp lH.atName
   let(f,first)<-Bi [ov] (GU ov m pl)
   Gk pos f first (jC pos<|dv (e::es) X.env) (Di pos<|DX [] X.env)):=by rfl):
 PE X (.Call (.Attribute o m lH) (e::es) [] pos)<|eE C m sp iW E ta t:=by
 intro ai s σ H Q I h;refine Qe (cn (he ai s σ H _ I h) λu s1⟨x,U,I1,rx,a,dx,fs,ex,ea,l,q⟩=>?_) ht;subst ex;obtain rfl:u=kg a:=rx;refine Ln I1 ea c hm l ?_;refine Ar I.ok.mod.sV hm.kp (cn (ha pos ai s1 σ U _ I1 q) λus s2⟨vs,H2,I2,r,q2⟩=>⟨I2.iM,?_⟩) fJ fw;exact BP (vs:=.ref a::vs) F hr hb hd hx I2 (.cons J r) q2
theorem eu(he:PE X o ta)(c:j8 X.K C)(hm:pq X.K C m f)(F:aD X.prog X.w X.K X.mg X.base CX k f fd ps sp)(hr:eF k X.A)(hb:Binds X.K fd ps ds)(hd:cJ iW ds)(hx:mq CX X E)
 (ht:dg (.Call (.Attribute o m lH) [] [] pos) X.env=(do
   let ov<-dg o X.env
   Jp lH.atName
   let(f,first)<-Bi [ov] (GU ov m pl)
   Gk pos f first (jC pos<|dv [] X.env) (Di pos<|DX [] X.env)):=by rfl):
 PE X (.Call (.Attribute o m lH) [] [] pos)<|eE C m sp iW E ta b8:=by
 intro ai s σ H Q I h;refine Qe (cn (he ai s σ H _ I h) λu s1⟨x,U,I1,rx,a,dx,fs,ex,ea,l,q⟩=>?_) ht;subst ex;obtain rfl:u=kg a:=rx;refine Ln I1 ea c hm l ?_;exact YH I1.iM hm.kp<|BP (vs:=[.ref a]) F hr hb hd hx I1 (.cons J .nil) q
structure Mk(K:aq)(C f:ak):Prop where
 makes:YN K C=ao
 init:wy K (.ref C) "__init__"=L (L<|.ref f)
 fn:Qc K (.ref f)=ao
 kp:jx K (.ref C)=ao
theorem run_make{σ:St}(aJ:Mk X.K C f)(F:aD X.prog X.w X.K X.mg X.base CX k f fd ps sp)(hr:eF (k+1) X.A)(hb:Binds X.K fd ps ds)(hd:cJ iW ds)
 (hx:mq CX X E) (I:Inv X ai σ H s) (r:cJ vs us)
 (h:∀x dx,H x=ah->H dx=ah->dx≠x->sp (.ref x::(vs++iW)) (aC (aC H dx<|.own x) x<|.ins C dx []) (λv H2=>v= .cu/\Q (.ref x) H2) E):
 b_ (bX X.prog X.w) X.A (call (.ref C) us) (EP X ai σ Q) X.xe s:=by
 have hq:=h _ s.heap.objs.size (I.bL.fresh<|Ke _) (I.bL.fresh<|dQ _) (j_<|FP _);have I2:=Inv.made (C:=C) I;have r2:cJ (V.ref (s.heap.objs.size+1)::_) _:=.cons J<|r.append hd;have hl:=by
  have e:=r2.length;rw[F.bH _ _ _ _ hq] at e;exact e.symm
 refine O_<|make_map I.iM aJ.makes aJ.init (beq_iff_eq.mp aJ.fn) (yN (F.run _ X.stack _ _ ⟨kg _::us,[]⟩ _ _ _ E (hr.Mg C us [])
  (I2.GH.Mg C us []) (hb _ _ I2.iM hl) r2 hq) λr s' w9=>?_)
 cases r with
 |error e=>exact hx ai σ _ _ e s' I2 w9
 |ok fl=>
  cases fl with
  |ret u=>
   obtain⟨v,H',I3,rv,ev,q3⟩:=I2.F8 w9;subst ev;exact⟨rv,V.ref _,H',I3,J,q3⟩
  |next=>exact ic w9
  |brk=>exact ic w9
  |cont=>exact ic w9
theorem oN(aJ:Mk X.K C f)(F:aD X.prog X.w X.K X.mg X.base CX k f fd ps sp)(hr:eF (k+1) X.A)(hg:Gl X x)(hm:X.mg x=L (.ref C))(hb:Binds X.K fd ps ds)(hd:cJ iW ds)(hx:mq CX X E)
 (ha:PA X (e::es) t) (oI:(x=="__debug__")=aM:=by decide) (he:dv (e::es) X.env=(aM,dg e X.env)::dv es X.env:=by rfl) (fw:(jC pos<|dv es X.env).any (·.1)=aM:=by rfl):
 PE X (.Call (.Name x p) (e::es) [] pos)<|OQ C sp iW E t:=by
 intro ai s σ H Q I h;refine Fu<|zl I hg hm ?_ oI;refine Ar I.ok.mod.sV aJ.kp (cn (ha pos ai s σ H _ I h) λus s1⟨vs,U,I1,r,q⟩=>⟨I1.iM,?_⟩) he fw;exact run_make aJ F hr hb hd hx I1 r q
end
structure bF(N P:af ax)(sc:mx):Prop where
 kind:sc.kind= .function
 co:sc.isCoroutine=aM
 A0:sc.isGenerator=aM
 nd:N.Nodup
 pre:N.take P.length=P
 Ii:∀x∈P,sc.names.lookup x=L .local\/sc.names.lookup x=L .cell
 T7:∀y∈sc.names,y.2≠ .free
theorem QS{kindOf:ax->au m_}:∀{wK:af (ax×aH)}{m:ax->au aH},(∀v,(x,v)∉wK)->yK kindOf wK m x=m x
 |[],_,_=>rfl
 |(n,v)::r,m,h=>by
  unfold yK;rw[QS λw hw=>h w<|gD _ hw]
  split
  ·have:x≠n:=by rintro rfl;exact h v iB
   simp[this]
  ·rfl
theorem QR{kindOf:ax->au m_}:∀{wK:af (ax×aH)}{m:ax->au aH},(∀v,(x,v)∉wK)->yJ kindOf wK m x=m x
 |[],_,_=>rfl
 |(n,v)::r,m,h=>by
  unfold yJ;rw[QR λw hw=>h w<|gD _ hw]
  split
  ·rfl
  ·have:x≠n:=by rintro rfl;exact h v iB
   simp[this]
theorem KQ{kindOf:ax->au m_}:∀{P:af ax}{vs:af aH}{i:ag}{m:ax->au aH},P.Nodup->P[i]? =L x->vs[i]? =L v->kindOf x=L .local->yK kindOf (P.zip vs) m x=L v
 |[],_,_,_,_,h,_,_=>by simp at h
 |_::_,[],_,_,_,_,h,_=>by simp at h
 |p::P,w::vs,0,m,nd,h1,h2,hk=>by
  simp at h1 h2;subst h1;subst h2;show yK kindOf (_::P.zip vs) m p=_;unfold yK;rw[QS λv hv=>(List.nodup_cons.mp nd).1 (J_ hv).1,aK hk];simp
 |p::P,w::vs,i+1,m,nd,h1,h2,hk=>by
  unfold yK;exact KQ (List.nodup_cons.mp nd).2 (by simpa using h1) (by simpa using h2) hk
theorem KP{kindOf:ax->au m_}:∀{P:af ax}{vs:af aH}{i:ag}{m:ax->au aH},P.Nodup->P[i]? =L x->vs[i]? =L v->kindOf x≠L .local->yJ kindOf (P.zip vs) m x=L v
 |[],_,_,_,_,h,_,_=>by simp at h
 |_::_,[],_,_,_,_,h,_=>by simp at h
 |p::P,w::vs,0,m,nd,h1,h2,hk=>by
  simp at h1 h2;subst h1;subst h2;show yJ kindOf (_::P.zip vs) m p=_;unfold yJ;rw[QR λv hv=>(List.nodup_cons.mp nd).1 (J_ hv).1,ay hk];simp
 |p::P,w::vs,i+1,m,nd,h1,h2,hk=>by
  unfold yJ;exact KP (List.nodup_cons.mp nd).2 (by simpa using h1) (by simpa using h2) hk
def start(N:af ax)(vs:af V):St:=vs.map L++Aj (N.length-vs.length) ah
def jF(CX:o8)(P:cO)(w:World)(K:aq)(mg:ax->au aH)(base:b9)(N:af ax)(cQ:ax)(aT:mx)(f:ak)(cd:aH)(A:oj)(bA:af j9)(s:c_)(H:Hp)(E:XK):Cx where
 prog:=P
 w:=w
 K:=K
 mg:=mg
 base:=base
 A:=A.deeper (jG cQ aT s.heap.objs.size f cd)
 N:=N
 gK:=s
 tX:=H
 env:=jG cQ aT s.heap.objs.size f cd
 bA:=bA
 stack:=jG cQ aT s.heap.objs.size f cd::bA
 ex:=[]
 kj:=ao
 fn:=λ_=>ao
 pn:=[]
 xe:=λe s'=>b_ (bX P w) (A.deeper<|jG cQ aT s.heap.objs.size f cd) (L7 (jG cQ aT s.heap.objs.size f cd) e) (λ_ vG=>CX bA H s E e vG) (λe' vG=>CX bA H s E e' vG) s'
theorem Gp{sc:mx}(h:sc.names.lookup x=L .cell):∃c,(iH n sc.names []).lookup x=L c:=by
 have q:=Qa sc.names n []<|.inl h;exact Option.isSome_iff_exists.mp q
theorem inv_start{K:aq}
 (S:bF N ps aT) (hd:A.handled=ah) (e0:tV P w K mg base A bA s H) (hl:vs.length=ps.length) (r:cJ vs us)
 (x:InCallC s s.heap.objs.size (yK (jG cQ aT s.heap.objs.size f cd).kindOf (ps.zip us) λ_=>ah) (iH (s.heap.objs.size+1) aT.names []) (yJ (jG cQ aT s.heap.objs.size f cd).kindOf (ps.zip us) λ_=>ah) s1):
 Inv (jF CX P w K mg base N cQ aT f cd A bA s H E) [] (start N vs) H s1:=by
 have fw:ps.length<=N.length:=by have:=gM J9 S.pre;rw[kJ] at this;lia
 obtain⟨h1,tk,rfl,hk⟩:=x.done;have s_:∀b,b∉(jF CX P w K mg base N cQ aT f cd A bA s H E).ex:=λb z=>absurd (show b∈[] from z)<|by simp
 refine⟨⟨e0.mod,S.kind,J,J,dQ _,λy z c h1 h2=>?_,λy hy=>?_,λy c _ h=>?_,λ_=>hd,Xq e0.frames,.inr ⟨J,J⟩,λb z=>absurd z<|s_ b,e0.bs,e0.qI,λb _ _=>s_ b,λb z=>absurd z<|s_ b,e0.lM,e0.uG⟩,J,e0.eG,Un.kept hk,⟨_,x.toInCall.ns,λi y v h1 h2 h3=>?_⟩,λy c h=>⟨_,x.cell y c h⟩,e0.bL.fresh<|dQ _,λy c h=>?_,λp hp=>absurd (show p∈[] from hp)<|by simp,e0.bL.kept hk,?_⟩
 ·exact name_of_addr x.apart (jR h1)<|jR h2
 ·have hy:=hy
  rcases hy with hy|hy
  ·exact Gp hy
  ·exact absurd J (S.T7 _<|jR hy)
 ·exact CD (x.above y c<|jR h)
 ·have hi:i<vs.length:=by
   unfold start at h2;by_cases hi:i<vs.length
   ·exact hi
   ·rw[PK<|by simpa using hi] at h2
    rw[X'] at h2
    split at h2<;>cases h2
  have ha:vs[i]? =L v:=by
   unfold start at h2;rw[X8<|by simpa using hi,m8] at h2
   cases e:vs[i]? with
   |none=>rw[e] at h2;cases h2
   |some a=>rw[e] at h2;cases h2;rfl
  obtain⟨u,hu,rv⟩:=r.get ha;have hp:ps[i]? =L y:=by
   rw[<-S.pre,X_<|by lia];exact h1
  have Eb:ps.Nodup:=by rw[<-S.pre];exact S.nd.sublist<|Yc _ _
  refine⟨u,rv,?_⟩;rcases S.Ii y (j' hp) with k|k
  ·exact .inl ⟨k,KQ Eb hp hu k⟩
  ·obtain⟨c,e⟩:=Gp k
   refine .inr ⟨.inl k,c,e,?_⟩;have q:=x.cell y c e;rw[KP Eb hp hu (by show aT.names.lookup y≠_;rw[k];decide)] at q;exact q
 ·exact e0.bL.fresh<|CD (x.above y c<|jR h)
 ·unfold start
  show _=N.length;simp[iT,ie,Yb]
  lia
theorem RR{K:aq}{dV kV dX pm cj ct oc:aH}
 (lk:K.lookup f=L ⟨oc,od,.func<|pR gJ cQ params body aT dV kV dX pm an cj ct,vi⟩) (my:Gs K cj cQ=ao) (S:bF N ps aT)
 (bH:∀vs H Q E,sp vs H Q E->vs.length=ps.length)
 (yY:∀A bA s H vs Q E,eF k (A.deeper<|jG cQ aT s.heap.objs.size f cj)->sp vs H Q E-> ∃t,gV (jF CX P w K mg base N cQ aT f cj A bA s H E) body t/\t {nx:=λ_ H'=>Q .cu H',rt:=Q} (start N vs) H):
 aD P w K mg base CX (k+1) f (pR gJ cQ params body aT dV kV dX pm an cj ct) ps sp:=by
 refine⟨bH,λA bA s H kh us vs Q E hr e0 hb r iL=>?_⟩;have hl:=bH _ _ _ _ iL;have KX:=e0.mod.sV.keeps λb o e=>(e0.bs b o e).1;have kz:=e0.mod.nolimit.keeps λb o e=>(e0.bs b o e).1;have LJ:∀y∈ps.zip us,aT.names.lookup y.1=L .local\/(aT.names.lookup y.1=L .cell/\((iH (s.heap.objs.size+1) aT.names []).lookup y.1).isSome=ao):=λdm hy=>by
  obtain⟨n,v⟩:=dm;rcases S.Ii n (J_ hy).1 with q|q
  ·exact .inl q
  ·exact .inr ⟨q,Qa _ _ _ (.inl q)⟩
 refine ZY hr.depth (KX _ _ lk) J S.co S.A0 J (YI KX my) (hb _ _ _ _ ?_);refine wpAny_newFunctionEnv_cells S.kind LJ λenv he s1 x=>?_;subst he;refine⟨kz.keeps x.toInCall.keep,codeAny_func ?_⟩;obtain⟨t,ht,hq⟩:=yY A bA s H vs Q E (hr.deeper _) iL;have I:Inv (jF CX P w K mg base N cQ aT f cj A bA s H E) [] (start N vs) H s1:=inv_start S hr.hd e0 hl r x;refine lr (ht [] s1 (start N vs) H _ I hq) (λfl s' hs=>?_) λe s' hs=>hs;have dr:∀{aS:St}{H':Hp}{v:V}{u:aH},Inv (jF CX P w K mg base N cQ aT f cj A bA s H E) [] aS H' s'->RelV v u->Q v H'->CE bA P w H s Q u s':=λ{aS H' v u}cG rv q=>⟨v,H',cG.os,cG.eG,cG.base,cG.bL,rv,q⟩
 cases fl with
 |ret u=>
  obtain⟨v,aS,H',cG,rv,q⟩:=hs;exact dr cG rv q
 |next=>
  obtain⟨aS,H',cG,q⟩:=hs;exact dr (v:=V.cu) cG J q
 |brk=>
  obtain⟨_,_,_,q⟩:=hs;exact ic q
 |cont=>
  obtain⟨_,_,_,q⟩:=hs;exact ic q
end L2
namespace L2
open PySem PySem.Spec PyProof.Rows
section
variable{X:Cx}{x:ax}{p pos:gW}{e:Expr}{es:af Expr}{t:TA}{id T:yG}{r:af V->Hp->VK->Prop}
def xX(r:af V->Hp->VK->Prop)(t:TA):TE:=λσ H Q=>t σ H λvs U=>r vs U Q
theorem jL(hc:v_ X (.builtin id) r)(hg:Gl X x)(hm:X.mg x=ah)(hv:Dm x=L (.builtin id))(ha:PA X (e::es) t)(hn:x≠"__name__":=by decide)(oI:(x=="__debug__")=aM:=by decide)
 (he:dv (e::es) X.env=(aM,dg e X.env)::dv es X.env:=by rfl) (fw:(jC pos<|dv es X.env).any (·.1)=aM:=by rfl):PE X (.Call (.Name x p) (e::es) [] pos)<|xX r t:=by
 intro ai s σ H Q I h;refine Fu<|D4 I hg hm hv ?_ hn oI;exact PyProof.Rows.callWith_builtin1 (cn (ha pos ai s σ H _ I h) λus s1 dW=>by obtain⟨vs,U,I1,r1,q1⟩:=dW;exact hc ai s1 σ U vs us Q I1 r1 q1) he fw
theorem nX(hc:v_ X (.type T) r)(hg:Gl X x)(hm:X.mg x=ah)(hv:Dm x=L (.type T))(ha:PA X (e::es) t)(hn:x≠"__name__":=by decide)(oI:(x=="__debug__")=aM:=by decide)
 (he:dv (e::es) X.env=(aM,dg e X.env)::dv es X.env:=by rfl) (fw:(jC pos<|dv es X.env).any (·.1)=aM:=by rfl):PE X (.Call (.Name x p) (e::es) [] pos)<|xX r t:=by
 intro ai s σ H Q I h;refine Fu<|D4 I hg hm hv ?_ hn oI;exact Kq (cn (ha pos ai s σ H _ I h) λus s1⟨vs,U,I1,r1,q1⟩=>hc ai s1 σ U vs us Q I1 r1 q1) he fw
end
end L2
namespace HT
open PySem PyProof.Rows
section
variable{prog:cO}{w:World}{A:oj}{E:aH->c_->Prop}{s:c_}
theorem ZX(ht:IsTup s.heap t vs.toArray)(hb:IsTup s.heap b ws.toArray)(hv:vs≠[])
 (h1:ws=[]->Q (.ref t) s) (h2:ws≠[]->Q (.ref s.heap.objs.size) {s with heap:=s.heap.push {cls:=.type "tuple",data:=.seq (vs++ws).toArray}})
 (nR:vs.length+ws.length<=bI):b_ (bX prog w) A (nE .Add (.ref t)<|.ref b) Q E s:=by
 obtain⟨⟨dh,dd,data,sl⟩,ho,hc,n,hd⟩:=id ht;obtain⟨⟨cls2,dd2,data2,xR⟩,ho2,hc2,n2,pS⟩:=id hb;subst hc hd hc2 pS;have e:vs.toArray++ws.toArray=(vs++ws).toArray:=by simp
 by_cases hw:ws=[]
 ·exact concat_meets ⟨_,ho,J⟩ ⟨_,ho2,J⟩ noFill_tuple_add seq_tuple_add YF YE (YD _ _)
   (tuple_addW1 t b vs.toArray ws.toArray n n2 dd dd2 sl xR (by simpa using hv)<|by simp[hw]) ⟨ho,ho2,h1 hw⟩
 ·refine concat_meets ⟨_,ho,J⟩ ⟨_,ho2,J⟩ noFill_tuple_add seq_tuple_add YF YE (YD _ _)
   (tuple_addW2 t b vs.toArray ws.toArray n n2 dd dd2 sl xR (by simpa using hv) (by simpa using hw) (by rw[gx,gx];exact nR)) ⟨ho,ho2,?_⟩
  rw[e];exact h2 hw
def eW(n d:ag):au ae->ag
 |none=>d
 |some v=>if v<0 then(v+n).toNat else min v.toNat n
theorem sIx_le(n d:ag)(hd:d<=n)(o:au ae):eW n d o<=n:=by
 cases o with
 |none=>exact hd
 |some v=>
  show(if v<0 then(v+n).toNat else min v.toNat n)<=n;by_cases hv:v<0
  ·rw[aK hv];lia
  ·rw[ay hv];exact Yq _ _
theorem Q9(v:ae)(n d:ag):(if v<0 then max (v+n) 0 else min v n)=(eW n d (L v):ag):=by
 show(if v<0 then max _ 0 else min v n)=((if v<0 then(v+(n:ae)).toNat else min v.toNat n):ag);by_cases hv:v<0
 ·simp only[aK hv];lia
 ·simp[ay hv];lia
theorem Zc(lo hi:au ae)(n:ag):Pn lo hi 1 n=(((eW n 0 lo):ae),((eW n n hi):ae)):=by
 have h1:¬(1<0):=by lia
 unfold Pn;refine Prod.ext ?_ ?_
 ·cases lo with
  |none=>rfl
  |some v=>exact Q9 v n 0
 ·cases hi with
  |none=>rfl
  |some v=>exact Q9 v n n
theorem places_gen(i j:ag):Po i j 1=j-i:=by
 unfold Po
 split<;>lia
theorem V2(p:IsPart v o)(h:Q o s):b_ (bX prog w) A (Builtin.Slice.slicePartIndex v) Q E s:=by
 cases p with
 |none=>exact slicePart_none h
 |int i t=>exact slicePart_int h
theorem sliceApplied_gen{lo hi:au ae}{n:ag}(hs:s.heap.IsSliceOf sl vl vu .none)(pl:IsPart vl lo)(pu:IsPart vu hi)
 (h:Q ((eW n 0 lo:ag),1,eW n n hi-eW n 0 lo) s):b_ (bX prog w) A (Builtin.Slice.sliceApplied (.ref sl)<|pure n) Q E s:=by
 obtain⟨os,hos,hcs,Bc⟩:=id hs;refine dj<|dj (Ca hos Bc J<|dj (Ca hos Bc J<|dj (Ca hos Bc J<|gg ?_)));refine dj<|slicePart_none ?_;refine dj (V2 pl (dj<|V2 pu (dj<|gg ?_)));show b_ _ _ (match Pn lo hi 1 n with|(lo,hi)=>pure (lo,(1:ae),Po lo hi 1)) _ _ s;rw[Zc lo hi n];show b_ _ _ (pure _) _ _ s;rw[places_gen];exact gg h
theorem pick_gen(xs:jv aH)(i k:ag):((iC k).filterMap λ(m:ag)=>xs[(i+(m:ae)*1).toNat]?).toArray=((xs.toList.drop i).take k).toArray:=by
 have e:(λ(m:ag)=>xs[(i+(m:ae)*1).toNat]?)=λm=>xs[i+m]? :=by
  funext m
  have:(i+(m:ae)*1).toNat=i+m:=by lia
  rw[this]
 rw[e];have:=pick_run xs i k;rw[List.filterMap_map] at this;have e2:((λx=>xs[x]?)∘λx=>i+x)=λm=>xs[i+m]? :=J;rw[e2] at this;rw[this]
theorem getItem_tuple_cut{lo hi:au ae}(ht:IsTup s.heap t gH)(hs:s.heap.IsSliceOf sl vl vu .none)(pl:IsPart vl lo)(pu:IsPart vu hi)
 (hw:¬(eW gH.size 0 lo=0/\eW gH.size gH.size hi=gH.size))
 (h:Q (.ref s.heap.objs.size) {s with heap:=s.heap.push {cls:=.type "tuple",data:=.seq ((gH.toList.drop<|eW gH.size 0 lo).take<|eW gH.size gH.size hi-eW gH.size 0 lo).toArray}})
 (nR:gH.size<=bI):b_ (bX prog w) A (yU (.ref t)<|.ref sl) Q E s:=by
 have Hf:=by
  show((gH.toList.drop<|eW gH.size 0 lo).take<|eW gH.size gH.size hi-eW gH.size 0 lo).toArray.size<=bI;simp[gx,kJ,Cu,Array.length_toList];omega
 obtain⟨os,hos,hcs,Bc⟩:=id hs;have hTs:s.TypeIs (.ref sl) "slice":=⟨os,hos,hcs⟩;unfold yU
 try with_reducible refine Pa ?_
 refine dj<|wpAny_sequenceKey ht.typeIs dc ?_
 refine dj (wpAny_callSpecial?_slot ht.typeIs YC
  (wpAny_call_entry YC ht.typeIs entry_tuple_getitem ?_<|args_tuple_getitem _ _))
 show b_ _ _ (Builtin.Tuple.tupleItemsOf _>>=_) _ _ s;refine dj<|tupleItemsOf_ ht ?_;refine dj<|wpAny_typeOf hTs ?_;refine dj<|sliceApplied_gen hs pl pu ?_;have hno:¬((((eW gH.size 0 lo):ae)==0&&(1:ae)==1&&(eW gH.size gH.size hi-eW gH.size 0 lo)==gH.size)=ao):=by
  intro q;rw[eX,eX] at q;have q1:=eq_of_beq q.1.1;have q2:=eq_of_beq q.2;exact hw ⟨om,om⟩
 show b_ _ _ (if _=ao then _ else _) _ _ s;rw[ay hno,pick_gen]
 first
  |exact dj<|Fv (gg ⟨_,J,gg h⟩) Hf
  |exact dj<|Fv (dj (gg<|gg ⟨_,J,gg h⟩)) Hf
  |exact dj (dj<|Fv (gg<|gg ⟨_,J,gg h⟩) Hf)
  |exact dj (dj<|Fv (gg ⟨_,J,gg h⟩) Hf)
end
end HT
namespace L2
open PySem PySem.Spec PyProof.Rows
abbrev TO:=St->Hp->(au ae->Hp->Prop)->Prop
def PO(X:Cx)(e:au Expr)(t:TO):Prop:=∀ai s(σ:St)H Q,Inv X ai σ H s->t σ H Q->b_ (bX X.prog X.w) X.A (evalPart e X.env) (λu s'=>∃o H',Inv X ai σ H' s'/\IsPart u o/\Q o H') X.xe s
def rD(t:TE):TO:=λσ H Q=>t σ H λx U=>∃i,x= .int i/\Q (L i) U
section
variable{X:Cx}{e:Expr}{te:TE}{lo hi:au Expr}{tl th:TO}{pos p2:gW}
theorem gd(h:PE X e te):PO X (L e)<|rD te:=by
 intro ai s σ H Q I hw;refine cn (h ai s σ H _ I hw) λu s1⟨x,U,I1,r1,q1⟩=>?_;obtain⟨i,rfl,q⟩:=q1;obtain⟨t,rfl⟩:=r1;exact⟨L i,U,I1,.int i t,q⟩
def yF(X:Cx)(r:V->au ae->au ae->Hp->VK->Prop):Prop:=∀ai s(σ:St)H x v vl vu lo hi sl Q,Inv X ai σ H s->RelV x v->s.heap.IsSliceOf sl vl vu .none->IsPart vl lo->IsPart vu hi->r x lo hi H Q-> ∃T id,typeLookup (.type T) "__getitem__"=pure (L<|.builtin id)/\s.TypeIs v T/\b_ (bX X.prog X.w) X.A (yU v<|.ref sl) (EP X ai σ Q) X.xe s
theorem yF.or(h:yF X r)(h':yF X r'):yF X λx lo hi H Q=>r x lo hi H Q\/r' x lo hi H Q:=by
 intro ai s σ H x v vl vu lo hi sl Q I rx hs pl pu q;rcases q with q|q
 ·exact h ai s σ H x v vl vu lo hi sl Q I rx hs pl pu q
 ·exact h' ai s σ H x v vl vu lo hi sl Q I rx hs pl pu q
def B8(r:V->au ae->au ae->Hp->VK->Prop)(te:TE)(tl th:TO):TE:=λσ H Q=>te σ H λx U=>tl σ U λl H2=>th σ H2 λu H3=>r x l u H3 Q
theorem lX(hr:yF X r)(he:PE X e te)(hl:PO X lo tl)(hu:PO X hi th):PE X (.Subscript e (.Slice lo hi ah p2) pos)<|B8 r te tl th:=by
 intro ai s σ H Q I h;refine Qv (cn (he ai s σ H _ I h) λv s1⟨x,U,I1,r1,q1⟩=>?_);refine wpAny_Slice (cn (hl ai s1 σ U _ I1 q1) λvl s2⟨l,H2,I2,pl,q2⟩=>cn (hu ai s2 σ H2 _ I2 q2) λvu s3⟨u,H3,I3,pu,q3⟩=>?_);refine gg ?_;have I4:Inv X ai σ H3 {s3 with heap:=s3.heap.push {cls:=.type "slice",data:=.fields #[vl,vu,.none]}}:=I3.kept λb ob q=>iS _ q;obtain⟨T,id,hT,ht,hg⟩:=hr ai {s3 with heap:=s3.heap.push {cls:=.type "slice",data:=.fields #[vl,vu,.none]}} σ H3 x v vl vu l u s3.heap.objs.size Q I4 r1 (Heap.IsSliceOf.new ..) pl pu q3;exact tail_any ht hT hg<|by with_unfolding_all rfl
def qK(xs:af V)(lo hi:au ae):af V:=(xs.drop<|HT.eW xs.length 0 lo).take<|HT.eW xs.length xs.length hi-HT.eW xs.length 0 lo
theorem Rf(xs:af V)(lo hi:au ae):(qK xs lo hi).length<=xs.length:=by
 unfold qK;rw[kJ,Cu]
 lia
inductive Ng(K:aq)(x:V)(lo:au ae)(hi:au ae)(H:Hp)(Q:VK):Prop
 |mk:∀a xs,x= .ref a->cH K H a xs->(¬(HT.eW xs.length 0 lo=0/\HT.eW xs.length xs.length hi=xs.length))->(∀p,H p=ah->Q (.ref p) (aC H p (.tup<|qK xs lo hi)))->Ng K x lo hi H Q
theorem xS:yF X<|Ng X.K:=by
 intro ai s σ H x v vl vu lo hi sl Q I rx hs pl pu h;obtain⟨a,xs,rfl,hx,hw,q⟩:=h
 cases rx
 obtain⟨aZ,r,ht,hz⟩:=I.tuple hx;have dJ:aZ.toArray.size=xs.length:=by rw[gx];exact r.length.symm
 refine⟨"tuple",_,PyProof.Rows.slot_tuple_getitem.lookup,ht.typeIs,?_⟩;refine HT.getItem_tuple_cut ht hs pl pu (by rw[dJ];exact hw) ?_ (by rw[dJ];exact hz);rw[dJ];refine⟨.ref s.heap.objs.size,_,I.kR (λb ob q=>iS _ q) (dQ _) ?_,J,q _ (I.bL.fresh<|dQ _)⟩;exact⟨dN (Rf xs lo hi) hz,_,(r.drop _).take _,Pz _ _⟩
inductive Nc(K:aq)(x:V)(y:V)(H:Hp)(Q:VK):Prop
 |mk:∀a b xs ys,x= .ref a->y= .ref b->cH K H a xs->cH K H b ys->xs≠[]->xs.length+ys.length<=bI->((ys=[]->Q (.ref a) H))->((ys≠[]-> ∀p,H p=ah->Q (.ref p) (aC H p (.tup<|xs++ys))))->Nc K x y H Q
theorem cJ.Mu(r:cJ xs us):us=[]↔xs=[]:=by
 cases r with
 |nil=>simp
 |cons _ _=>simp
theorem xD:fY X (nE .Add)<|Nc X.K:=by
 intro ai s σ H x y v u Q I rx ry h;obtain⟨a,b,xs,ys,rfl,rfl,ha,hb,hx,hz,q1,q2⟩:=h
 cases rx
 cases ry
 obtain⟨aZ,r1,p1,_⟩:=I.tuple ha;obtain⟨mF,r2,p2,_⟩:=I.tuple hb;refine HT.ZX p1 p2 (λz=>hx<|r1.Mu.mp z) (λz=>⟨.ref a,H,I,J,q1<|r2.Mu.mp z⟩) (λz=>?_) (by rw[<-r1.length,<-r2.length];exact hz);refine⟨.ref s.heap.objs.size,_,I.kR (λb ob q=>iS _ q) (dQ _) ?_,J,q2 (λw=>z<|r2.Mu.mpr w) _ (I.bL.fresh<|dQ _)⟩;exact⟨by rw[iT];exact hz,_,r1.append r2,Pz _ _⟩
end
end L2
namespace L2
open PySem PySem.Spec PyProof.Rows
def kQ(n:ag)(i:ae):au ag:=if 0<=i then(if i<n then L i.toNat else ah) else if-n<=i then L (i+n).toNat else ah
def uy{α:Type}(xs:af α)(i:ae):au α:=(kQ xs.length i).bind λj=>xs[j]?
theorem S0(h:kQ n i=L j):seqIndex? i n=L j/\j<n/\ -n<=i/\i<n:=by
 unfold kQ at h;by_cases h0:0<=i
 ·rw[aK h0] at h
  by_cases h1:i<n
  ·rw[aK h1] at h
   have e:=ny h;exact⟨by rw[VS h0 h1,e],om,om,h1⟩
  ·rw[ay h1] at h;cases h
 ·rw[ay h0] at h
  by_cases h1: -n<=i
  ·rw[aK h1] at h
   have e:=ny h;exact⟨by rw[VR om h1,e],om,h1,om⟩
  ·rw[ay h1] at h;cases h
theorem KL{xs:af α}(h:uy xs i=L v):∃j,seqIndex? i xs.length=L j/\xs[j]? =L v/\j<xs.length/\ -xs.length<=i/\i<xs.length:=by
 unfold uy at h
 cases e:kQ xs.length i with
 |none=>rw[e] at h;cases h
 |some j=>
  rw[e] at h;obtain⟨h1,h2,h3,h4⟩:=S0 e;exact⟨j,h1,h,h2,h3,h4⟩
theorem uz{xs:af α}{j:ag}(h:xs[j]? =L v):uy xs j=L v:=by
 have hj:=(List.getElem?_eq_some_iff.mp h).1;have e:kQ xs.length j=L j:=by
  unfold kQ;rw[aK<|by lia,aK om];simp
 unfold uy;rw[e];exact h
def YA(b:Expr):Prop:=∀o i,OJ b aM o i=operate [o,i] (yU o i)
def tZ(X:Cx)(r:R2):Prop:=∀jO qC ai s(σ:St)H x y v u Q,Inv X ai σ H s->RelV x v->RelV y u->r x y H Q->OJ qC aM v u=operate [v,u] (yU v u)->b_ (bX X.prog X.w) X.A (subscriptTail jO qC v u) (EP X ai σ Q) X.xe s
def Yf(X:Cx)(id:yG)(r:V->af V->Hp->VK->Prop):Prop:=∀ai s(σ:St)H x xs v us Q,Inv X ai σ H s->RelV x v->cJ xs us->r x xs H Q->b_ (bX X.prog X.w) X.A (call (.builtin id)<|v::us) (EP X ai σ Q) X.xe s
section
variable{X:Cx}{a b:Expr}{ta tb:TE}{pos:gW}
theorem tZ.or(h:tZ X r)(h':tZ X r'):tZ X λx y H Q=>r x y H Q\/r' x y H Q:=by
 intro jO qC ai s σ H x y v u Q I rx ry q hs;rcases q with q|q
 ·exact h jO qC ai s σ H x y v u Q I rx ry q hs
 ·exact h' jO qC ai s σ H x y v u Q I rx ry q hs
theorem d4(hr:tZ X r)(ha:PE X a ta)(hb:PE X b tb)(hs:YA b):PE X (.Subscript a b pos)<|bY r ta tb:=by
 intro ai s σ H Q I h;exact Qv (KO ha hb I h λv u s2 x y H2 I2 rx ry q=>hr a b ai s2 σ H2 x y v u Q I2 rx ry q<|hs _ _)
inductive kZ(K:aq)(x:V)(y:V)(H:Hp)(Q:VK):Prop
 |mk:∀p xs i v,x= .ref p->y= .int i->SqL K H p xs->uy xs i=L v->Q v H->kZ K x y H Q
inductive dI(K:aq)(x:V)(y:V)(H:Hp)(Q:VK):Prop
 |mk:∀p xs i v,x= .ref p->y= .int i->cH K H p xs->uy xs i=L v->Q v H->dI K x y H Q
inductive Nf(x:V)(y:V)(H:Hp)(Q:VK):Prop
 |mk:∀z i c,x= .str z->y= .int i->z.length<=bI->uy z.cps.toList i=L c->Q (.str ⟨#[c]⟩) H->Nf x y H Q
theorem kr:tZ X<|kZ X.K:=by
 intro jO qC ai s σ H x y v u Q I rx ry h hs;obtain⟨p,xs,i,z,rfl,rfl,hq,he,q⟩:=h
 cases rx
 obtain⟨t,rfl⟩:=ry;obtain⟨aZ,r,pl,hz⟩:=I.list hq;obtain⟨j,h1,h2,h3,h4,h5⟩:=KL he;obtain⟨w,ew,vF⟩:=r.get h2;have hl:=r.length;have hn:=D6;have dr:EP X ai σ Q w s:=⟨z,H,I,vF,q⟩;by_cases h0:0<=i
 ·have hj:=by
   rw[VS h0 h5] at h1;exact ny h1
  exact item_listR pl.isList h0 (by lia) (by rw[hj];simpa using ew) dr hs
 ·have hj:(i+aZ.toArray.size).toNat=j:=by
   rw[VR om h4] at h1;rw[gx,<-hl];exact ny h1
  exact subscriptTail_builtinR pl.isList.typeIs slot_list_getitem.lookup
   (wpAny_getItem_list_neg pl.isList om (by rw[gx]<;>lia) (by lia) (by rw[hj];simpa using ew) ⟨J,dr⟩) hs
theorem uQ:tZ X<|dI X.K:=by
 intro jO qC ai s σ H x y v u Q I rx ry h hs;obtain⟨p,xs,i,z,rfl,rfl,hq,he,q⟩:=h
 cases rx
 obtain⟨t,rfl⟩:=ry;obtain⟨aZ,r,pl,hz⟩:=I.tuple hq;obtain⟨j,h1,h2,h3,h4,h5⟩:=KL he;obtain⟨w,ew,vF⟩:=r.get h2;have hl:=r.length;have hn:=D6;have dr:EP X ai σ Q w s:=⟨z,H,I,vF,q⟩;exact subscriptTail_builtinR pl.typeIs slot_tuple_getitem.lookup
  (getItem_tuple pl om om (by rw[gx,<-hl];exact h1) (by simpa using ew) ⟨J,dr⟩) hs
theorem ix_str:tZ X Nf:=by
 intro jO qC ai s σ H x y v u Q I rx ry h hs;obtain⟨z,i,c,rfl,rfl,hz,he,q⟩:=h;obtain⟨t,rfl⟩:=rx;obtain⟨t',rfl⟩:=ry;obtain⟨j,h1,h2,h3,h4,h5⟩:=KL he;have hl:z.cps.toList.length=z.length:=by simp[Str.length]
 rw[hl] at h1 h4 h5;have hn:=D6
 exact tail_any (typeIs_str s z t) slot_str_getitem.lookup (getItem_str (by
  have e1:decide (i< -(2^63))=aM:=hX om;have e2:decide (i≥2^63)=aM:=hX om
  simp only[e1,e2,Xw]) (by rw[h1];simpa using h2) ⟨.str ⟨#[c]⟩,H,I.mf _,⟨_,J⟩,q⟩) hs
def tF(K:aq):R2:=λx y H Q=>kZ K x y H Q\/dI K x y H Q\/Nf x y H Q
theorem ji:tZ X<|tF X.K:=kr.or<|uQ.or ix_str
theorem mapSeq_set(aZ:af aH)(n j:ag)(u:aH):Kl (·.setIfInBounds j u) {cls:=.type "list",data:=.seq aZ.toArray n}={cls:=.type "list",data:=.seq (aZ.set j u).toArray n}:=by
 simp[Kl]
theorem Inv.lst{σ:St}(I:Inv X ai σ H s)(h:H p=L (.lst xs)):∃(aZ:af aH)(n:ag),cJ xs aZ/\s.heap.get? p=L {cls:=.type "list",data:=.seq aZ.toArray n}/\xs.length<=bI:=by
 obtain⟨z,aZ,n,r,e⟩:=I.bL p _ h;exact⟨aZ,n,r,e,z⟩
theorem Inv.lstUpd{σ:St}{aZ sU:af aH}(I:Inv X ai σ H s)(h:H p=L (.lst xs))
 (ho:s.heap.get? p=L {cls:=.type "list",data:=.seq aZ.toArray n}) (hf:f {cls:=.type "list",data:=.seq aZ.toArray n}={cls:=.type "list",data:=.seq sU.toArray n'}) (r:cJ ys sU) (hz:ys.length<=bI) (t:ag):
 Inv X ai σ (aC H p<|.lst ys) {s with heap:=s.heap.update p f,toks:=t}:=by
 have e:(s.heap.update p f).get? p=L {cls:=.type "list",data:=.seq sU.toArray n'}:=by
  rw[XH f ho<|by rw[hf]<;>rfl,hf]
 refine I.vV (by rw[h];trivial) (.inl J) (λb u hb q=>(JX _ _<|dB hb).trans q) ⟨_,e⟩ ?_;exact⟨hz,sU,n',r,e⟩
inductive xM(o:V)(i:V)(v:V)(H:Hp)(Q:Hp->Prop):Prop
 |mk:∀p xs k j,o= .ref p->i= .int k->H p=L (.lst xs)->kQ xs.length k=L j->Q (aC H p (.lst<|xs.set j v))->xM o i v H Q
theorem zW:P5 X xM:=by
 intro ai s σ H o i v ov iv u Q I ro ri rv h;obtain⟨p,xs,k,j,rfl,rfl,hp,hj,q⟩:=h
 cases ro
 obtain⟨t,rfl⟩:=ri;obtain⟨aZ,n,r,ho,hz⟩:=I.lst hp;obtain⟨h1,h2,h3,h4⟩:=S0 hj;have hl:=r.length;have hn:=D6;have I':=I.lstUpd hp ho (mapSeq_set aZ n j u) (r.set rv j) (by rw[pk];exact hz) s.toks
 by_cases h0:0<=k
 ·have hk:=by
   rw[VS h0 h4] at h1;exact ny h1
  exact PySem.W.ki_setAt ho h0 (by lia) (by rw[gx,<-hl];exact h4) (by rw[hk];exact⟨_,I',q⟩)
 ·have hk:(k+aZ.toArray.size).toNat=j:=by
   rw[VR om h3] at h1;rw[gx,<-hl];exact ny h1
  exact PySem.W.ki_setBack ho om (by rw[gx,<-hl];exact h3) (by lia) (by rw[hk];exact⟨_,I',q⟩)
theorem slice_bounds(lo hi:au ae)(n:ag):(BY lo hi ah n).1=(HT.eW n 0 lo:ag)/\(BY lo hi ah n).2.1=(HT.eW n n hi:ag)/\(BY lo hi ah n).2.2=1:=by
 refine⟨?_,?_,J⟩
 ·cases lo with
  |none=>simp[BY,HT.eW]
  |some i=>
   simp[BY,HT.eW,Option.getD_none,show 1>0 by decide,nT];by_cases h:i<0
   ·simp[h,nT]<;>omega
   ·simp[h,xa]<;>omega
 ·cases hi with
  |none=>simp[BY,HT.eW]
  |some i=>
   simp[BY,HT.eW,Option.getD_none,show 1>0 by decide,nT];by_cases h:i<0
   ·simp[h,nT]<;>omega
   ·simp[h,xa]<;>omega
theorem slicePick_cut(aZ:af aH)(lo hi:au ae):slicePick aZ.toArray lo hi ah=((aZ.drop<|HT.eW aZ.length 0 lo).take<|HT.eW aZ.length aZ.length hi-HT.eW aZ.length 0 lo).toArray:=by
 obtain⟨h1,h2,h3⟩:=slice_bounds lo hi aZ.toArray.size;unfold slicePick;simp only[h1,h2,h3];simp only[sliceRange_one,pick_run,gx]<;>rfl
inductive zN(K:aq)(x:V)(lo:au ae)(hi:au ae)(H:Hp)(Q:VK):Prop
 |mk:∀a xs,x= .ref a->SqL K H a xs->(∀p,H p=ah->Q (.ref p) (aC H p (.lst<|qK xs lo hi)))->zN K x lo hi H Q
theorem l_:yF X<|zN X.K:=by
 intro ai s σ H x v vl vu lo hi sl Q I rx hs pl pu h;obtain⟨a,xs,rfl,hx,q⟩:=h
 cases rx
 obtain⟨aZ,r,ht,hz⟩:=I.list hx;have dJ:=r.length;refine⟨"list",_,slot_list_getitem.lookup,ht.isList.typeIs,?_⟩;refine wpAny_getItem_list_slice ht.isList hs pl pu .none (by simp) ?_<|by rw[gx]<;>lia
 rw[slicePick_cut,<-dJ];refine⟨.ref s.heap.objs.size,_,I.kR (λb ob q=>iS _ q) (dQ _) ?_,J,q _ (I.bL.fresh<|dQ _)⟩;exact⟨dN (Rf xs lo hi) hz,_,0,(r.drop _).take _,pf _ J⟩
theorem oB:v_ X (.builtin "len") (λxs H Q=>∃p ys,xs=[.ref p]/\(SqL X.K H p ys\/cH X.K H p ys)/\Q (.int ys.length) H):=by
 intro ai s σ H xs us Q I r h;obtain⟨p,ys,rfl,hq,q⟩:=h;obtain⟨u,rfl,rx⟩:=vals1 r
 cases rx
 have hn:=D6;rcases hq with hq|hq
 ·obtain⟨aZ,r',pl,hz⟩:=I.list hq
  have dJ:=r'.length;exact Calls.call_len_list pl.isList (by simp[gx]<;>omega) ⟨.int ys.length,H,I.mf _,⟨s.toks+1,by rw[gx,dJ]⟩,q⟩
 ·obtain⟨aZ,r',pl,hz⟩:=I.tuple hq
  have dJ:=r'.length;exact len_tuple pl (by simp[gx]<;>omega) ⟨.int ys.length,H,I.mf _,⟨s.toks+1,by rw[gx,dJ]⟩,q⟩
theorem KW:v_ X (.type "list") (λxs H Q=>∃p ys,xs=[.ref p]/\(SqL X.K H p ys\/cH X.K H p ys)/\ ∀l,H l=ah->Q (.ref l) (aC H l<|.lst ys)):=by
 intro ai s σ H xs us Q I r h;obtain⟨p,ys,rfl,hq,q⟩:=h;obtain⟨u,rfl,rx⟩:=vals1 r
 cases rx
 have dr:∀aZ,cJ ys aZ->ys.length<=bI-> ∀h' c',_->h'.get? s.heap.objs.size=L {cls:=.type "list",dict:=ah,data:=.seq aZ.toArray c',slots:= #[]}->EP X ai σ Q _ {s with heap:=h'}:=λaZ r' hz h' c' kp e=>
  ⟨.ref s.heap.objs.size,_,I.kR kp (dQ _) (show gU X.prog X.w _ h' _ (.lst ys) from⟨hz,aZ,c',r',e⟩),J,q _ (I.bL.fresh<|dQ _)⟩
 rcases hq with hq|hq
 ·obtain⟨aZ,r',pl,hz⟩:=I.list hq
  have dJ:=r'.length;obtain⟨o,ho,hc,n,hd⟩:=pl.isList;exact call_list_seq p (.inl J) ho hc hd (λh' c' kp e=>dr aZ r' hz h' c' kp e)<|by simp[gx]<;>omega
 ·obtain⟨aZ,r',pl,hz⟩:=I.tuple hq
  have dJ:=r'.length;obtain⟨o,ho,hc,n,hd⟩:=pl;exact call_list_seq p (.inr J) ho hc hd (λh' c' kp e=>dr aZ r' hz h' c' kp e)<|by simp[gx]<;>omega
theorem qJ:v_ X (.type "tuple") (λxs H Q=>∃p ys,xs=[.ref p]/\((SqL X.K H p ys/\ ∀l,H l=ah->Q (.ref l) (aC H l<|.tup ys))\/(cH X.K H p ys/\Q (.ref p) H))):=by
 intro ai s σ H xs us Q I r h;obtain⟨p,ys,rfl,h⟩:=h;obtain⟨u,rfl,rx⟩:=vals1 r
 cases rx
 rcases h with⟨hq,q⟩|⟨hq,q⟩
 ·obtain⟨aZ,r',pl,hz⟩:=I.list hq
  have dJ:=r'.length;refine call_tuple_list pl.isList (λh' kp=>?_)<|by simp[gx]<;>omega
  have I1:=I.kept (t':=s.toks) kp;have I2:=I1.kR (t':=s.toks) (λb o e=>iS _ e) (dQ _) (show gU X.prog X.w _ _ _ (.tup ys) from⟨hz,aZ,r',Pz _ _⟩)
  exact⟨.ref h'.objs.size,_,I2,J,q _ (I1.bL.fresh<|dQ _)⟩
 ·obtain⟨aZ,r',pl,hz⟩:=I.tuple hq
  exact call_tuple_same pl ⟨.ref p,H,I,J,q⟩
def W8(K:aq)(T:yG)(x:V)(H:Hp):Prop:=match x with
 | .str _=>T="str"
 | .int _=>T="int"
 | .ref p=>(T="list"/\ ∃xs,SqL K H p xs)\/(T="tuple"/\ ∃o,K.lookup p=L o/\o.cls= .type "tuple"/\o.dict=ah)\/(T="dict"/\((∃aW,H p=L (.dK aW))\/ ∃aW,H p=L (.dT aW)))\/(T="set"/\ ∃S n,H p=L (.set S n))
 |_=>e_
theorem tyV_is{σ:St}(I:Inv X ai σ H s)(r:RelV x v)(ty:W8 X.K T x H):s.TypeIs v T/\ ∀a,v= .ref a-> ∃ob,s.heap.get? a=L ob/\ob.dict=ah:=by
 cases x with
 |str z=>
  obtain⟨t,rfl⟩:=r
  cases(show T="str" from ty)
  exact⟨typeIs_str s z t,λ_ e=>nomatch e⟩
 |int i=>
  obtain⟨t,rfl⟩:=r
  cases(show T="int" from ty)
  exact⟨typeIs_int s i t,λ_ e=>nomatch e⟩
 |ref p=>
  cases r
  rcases ty with⟨rfl,xs,hq⟩|⟨rfl,o,hk,hc,hd⟩|⟨rfl,hk⟩|⟨rfl,S,n,hk⟩
  ·obtain⟨aZ,_,pl,_⟩:=I.list hq
   refine⟨pl.isList.typeIs,λa e=>?_⟩
   cases e
   obtain⟨o,n,e,c,hd,_⟩:=pl;exact⟨o,e,hd⟩
  ·refine⟨⟨o,I.iM p o hk,hc⟩,λa e=>?_⟩
   cases e
   exact⟨o,I.iM _ o hk,hd⟩
  ·have z:∃o,s.heap.get? p=L o/\o.ExactDict:=by
    rcases hk with⟨aW,hk⟩|⟨aW,hk⟩
    ·obtain⟨_,_,_,_,o,_,_,e,ex,_⟩:=I.bL p _ hk
     exact⟨o,e,ex⟩
    ·obtain⟨_,_,_,_,o,_,_,e,ex,_⟩:=I.bL p _ hk
     exact⟨o,e,ex⟩
   obtain⟨o,e,ex⟩:=z;refine⟨⟨o,e,ex.1⟩,λa e2=>?_⟩
   cases e2
   exact⟨o,e,ex.2.1⟩
  ·obtain⟨o,_,_,_,e,ex,_⟩:=I.bL p _ hk
   refine⟨⟨o,e,ex.1⟩,λa e2=>?_⟩
   cases e2
   exact⟨o,e,ex.2.1⟩
 |_=>exact ic ty
def WO(K:aq)(T:yG)(r:V->af V->Hp->VK->Prop)(to:TE)(t:TA):TE:=λσ H Q=>to σ H λx U=>W8 K T x U/\t σ U λxs H2=>r x xs H2 Q
variable{o e:Expr}{es:af Expr}{to:TE}{t:TA}{gJ:ax}{lH sy:gW}{T id:yG}{r:V->af V->Hp->VK->Prop}
theorem vp(pa:PlainAttrs T)(jr:Slot T gJ id)(hty:typeOf (.builtin id)=pure (.type "method_descriptor"))(hm:Yf X id r)(ho:PE X o to)(ha:PA X (e::es) t)
 (LF:Gb o gJ X.env (dg o X.env)=dg o X.env:=by rfl)
 (hfew:((jC sy<|dv (e::es) X.env).all (λx=>!x.1)&&(Di sy<|DX [] X.env).all (λx=>x.1.isSome)
   &&decide ((e::es).length+([]:af Keyword).length+(if([]:af Keyword).isEmpty then 0 else 1)<30))=ao:=by rfl)
 (LL:(lH.endLine==sy.line)=ao:=by rfl) (hs:dv (e::es) X.env=(aM,dg e X.env)::dv es X.env:=by rfl) (hplain:(jC sy<|dv es X.env).any (·.1)=aM:=by rfl):
 PE X (.Call (.Attribute o gJ lH) (e::es) [] sy)<|WO X.K T r to t:=by
 intro ai s σ H Q I h;refine wpAny_Call_method_late LF hfew LL J (cn (ho ai s σ H _ I h) λv s1⟨x,U,I1,r1,ty,q1⟩=>?_);obtain⟨h1,h2⟩:=tyV_is I1 r1 ty;refine⟨T,id,pa,jr,hty,h1,h2,?_⟩;have hA:=ha sy ai s1 σ U _ I1 q1;rw[hs] at hA⊢;refine XA (by show(aM||(jC sy _).any (·.1))=aM;rw[hplain]<;>rfl)<|XB ?_;exact cn hA λus s2 gw=>by obtain⟨vs,H2,I2,r2,q2⟩:=gw;exact hm ai s2 σ H2 x vs v us Q I2 r1 r2 q2
end
end L2
namespace L2
open PySem PySem.Spec PyProof.Rows
def Ka(X:Cx)(id:yG)(r:V->af V->Hp->VK->Prop):Prop:=∀ai s(σ:St)H x xs v us Q,Inv X ai σ H s->RelV x v->cJ xs us->r x xs H Q->b_ (bX X.prog X.w) X.A (call (.builtin id)<|v::us) (EP X ai σ Q) X.xe s
theorem cJ.one:∀{x:V}{us:af aH},cJ [x] us-> ∃u,us=[u]/\RelV x u
 |_,_,.cons r .nil=>⟨_,J,r⟩
section
variable{X:Cx}{ai:af (ak×eR)}{σ:St}{H:Hp}{s:c_}{l b:ak}{xs ys zs:af V}
theorem Inv.Md{aZ sU:af aH}(I:Inv X ai σ H s)(hH:H l=L (.lst xs))
 (e:s.heap.get? l=L {cls:=.type "list",data:=.seq aZ.toArray n}) (hf:f aZ.toArray=sU.toArray) (hv:cJ ys sU) (hz:ys.length<=bI):
 Inv X ai σ (aC H l<|.lst ys) {s with heap:=s.heap.update l<|Kl f,toks:=t'}:=by
 have q:=PySem.IsL.update e f;rw[hf] at q;refine I.vV (by rw[hH];exact ck) (.inl J) (λb' u hb hu=>(JX s.heap _<|dB hb).trans hu) ⟨_,q⟩ ?_;exact⟨hz,sU,_,hv,q⟩
theorem Inv.lnew(I:Inv X ai σ H s)(hv:cJ ys aZ)(hz:ys.length<=bI):Inv X ai σ (aC H s.heap.objs.size<|.lst ys) {s with heap:=s.heap.push {cls:=.type "list",data:=.seq aZ.toArray},toks:=t'}:=I.kR (λ_ _ q=>iS _ q) (dQ _) ⟨hz,aZ,0,hv,pf _ J⟩
theorem Inv.fresh(I:Inv X ai σ H s):H s.heap.objs.size=ah:=I.bL.fresh<|dQ _
theorem Inv.Bq(I:Inv X ai σ H s)(hH:H l=L (.lst xs)):xs.length<=bI/\ ∃(aZ:af aH)(n:ag),cJ xs aZ/\xs.length=aZ.length/\s.heap.get? l=L {cls:=.type "list",data:=.seq aZ.toArray n}:=by
 obtain⟨z,aZ,n,r,e⟩:=I.bL l _ hH;exact⟨z,aZ,n,r,r.length,e⟩
theorem T8(h:n<=bI):JR n=aM:=by
 exact hX<|by lia
end
section
variable{X:Cx}
inductive U7(x:V)(vs:af V)(H:Hp)(Q:VK):Prop
 |mk:∀l xs y,x= .ref l->vs=[y]->H l=L (.lst xs)->xs.length<bI->Q .cu (aC H l (.lst<|xs++[y]))->U7 x vs H Q
theorem Bt:Ka X "list.append" U7:=by
 intro ai s σ H x vs v us Q I rx rv h;obtain⟨l,xs,y,rfl,rfl,hH,hz,q⟩:=h
 cases rx
 obtain⟨u,rfl,ru⟩:=rv.one;obtain⟨z,aZ,n,r,hl,e⟩:=I.Bq hH;refine Q7 F.slot_list_append ⟨_,e,J⟩ F.entry_list_append (F.args_list_append_2 _ _) (PySem.list_append l aZ.toArray n u (by rw[gx];omega)) ⟨e,?_⟩;refine⟨.cu,_,I.Md hH e (by simp) (r.append<|.cons ru .nil) ?_,J,q⟩;rw[iT,List.length_singleton];omega
inductive U8(x:V)(vs:af V)(H:Hp)(Q:VK):Prop
 |mk:∀l b xs zs,x= .ref l->vs=[.ref b]->H l=L (.lst xs)->H b=L (.lst zs)->xs.length+zs.length<=bI->Q .cu (aC H l (.lst<|xs++zs))->U8 x vs H Q
theorem mt_extend:Ka X "list.extend" U8:=by
 intro ai s σ H x vs v us Q I rx rv h;obtain⟨l,b,xs,zs,rfl,rfl,hH,hB,hz,q⟩:=h
 cases rx
 obtain⟨u,rfl,ru⟩:=rv.one
 cases ru
 obtain⟨z,aZ,n,r,hl,e⟩:=I.Bq hH;obtain⟨z2,mF,n2,r2,ij,e2⟩:=I.Bq hB;have nR:aZ.toArray.size+mF.toArray.size<=bI:=by rw[gx,gx];lia
 have LM:¬(!aZ.toArray.isEmpty&&JR (aZ.toArray.size+mF.toArray.size))=ao:=by
  rw[T8 nR,Xu];exact vZ
 refine Q7 P' ⟨_,e,J⟩ XG (XF _ _)
  (AutoSeq1.list_extend_list_list_0 l aZ.toArray n b mF.toArray n2 LM (by rw[gx];lia)<|by lia) ⟨e,e2,?_⟩
 refine⟨.cu,_,I.Md hH e (by simp) (r.append r2) ?_,J,q⟩;rw[iT];omega
inductive Ip(x:V)(y:V)(H:Hp)(Q:VK):Prop
 |mk:∀l b xs zs,x= .ref l->y= .ref b->H l=L (.lst xs)->H b=L (.lst zs)->xs.length+zs.length<=bI->(∀p,H p=ah->Q (.ref p) (aC H p (.lst<|xs++zs)))->Ip x y H Q
theorem ve:fY X (nE .Add) Ip:=by
 intro ai s σ H x y v u Q I rx ry h;obtain⟨l,b,xs,zs,rfl,rfl,hH,hB,hz,q⟩:=h
 cases rx
 cases ry
 obtain⟨z,aZ,n,r,hl,e⟩:=I.Bq hH;obtain⟨z2,mF,n2,r2,ij,e2⟩:=I.Bq hB;refine PySem.P.add_list e e2 ?_ (by rw[gx,gx];omega);have ea:aZ.toArray++mF.toArray=(aZ++mF).toArray:=by simp
 rw[ea];exact⟨.ref _,_,I.lnew (r.append r2) (by rw[iT];omega),J,q _ I.fresh⟩
end
end L2
namespace L2
open PySem PySem.Spec PyProof.Rows
theorem cJ.QZ:∀{bs:af df}{us:af aH},cJ (bs.map V.bl) us->us=bs.map Dc
 |[],us,h=>by
  cases h
  rfl
 |b::bs,us,h=>by
  cases h with
  |cons r t=>
   cases r
   rw[cJ.QZ t,kK]
theorem cJ.ref1(r:cJ [V.ref a] us):us=[kg a]:=by
 cases r with
 |cons r t=>
  cases t
  cases r
  rfl
theorem iter_any(hl:s.heap.IsList l gH)
 (h:∀j6,j6={s with heap:=s.heap.push {cls:=.type "list_iterator",data:=.fields #[.ref l,.int 0 0]}}->(j6.heap.IsListIter s.heap.objs.size l 0/\j6.heap.IsList l gH)->l≠s.heap.objs.size->Q (.ref s.heap.objs.size) j6):b_ (bX prog w) A (pyIter<|.ref l) Q E s:=by
 have d9:l<s.heap.objs.size:=by obtain⟨_,e,_⟩:=hl;exact ej e
 exact wpAny_pyIter_list hl (h _ J ⟨⟨_,pf _ J,J,J⟩,hl.push _⟩<|j_ d9)
theorem truth_bools{bs:af df}(e:aZ=bs.map Dc):TruthOf prog w A (λi v=>aZ.toArray[i]? =L v) λi=>bs.getD i aM:=λi v s Q E hv hq=>by
 have Bm:=by simpa using hv
 rw[e,m8] at Bm;obtain⟨b,hb,rfl⟩:=Option.map_eq_some_iff.mp Bm;have hg:bs.getD i aM=b:=by rw[Cq,hb]<;>rfl
 have w9:Q (bs.getD i aM) s:=hq;rw[hg] at w9;exact Cc w9
theorem any_range:∀bs:af df,(iC bs.length).any (λi=>bs.getD i aM)=bs.any id
 |[]=>rfl
 |b::bs=>by
  simp[yj,List.range_succ_eq_map,yh,XZ,yh,<-any_range bs]
  all_goals rfl
section
variable{X:Cx}
inductive Nb(K:aq)(vs:af V)(H:Hp)(Q:VK):Prop
 |mk:∀a(bs:af df),vs=[V.ref a]->SqL K H a (bs.map V.bl)->Q (.bl<|bs.any id) H->Nb K vs H Q
theorem Rc(hc:X.kj=ao):v_ X (.builtin "any")<|Nb X.K:=by
 intro ai s σ H vs us Q I r h;obtain⟨a,bs,rfl,hs,q⟩:=h;obtain⟨aZ,rv,hl,_⟩:=I.list hs;rw[cJ.ref1 r];have hb:=rv.QZ;refine call_any_walk (iter_any hl.isList λj6 e2 st gZ=>?_);subst e2;refine⟨_,_,_,_,_,_,_,J,Walks.list (A:=X.A.in1) (I.ok.hd hc) _ a gZ aZ.toArray,st,truth_bools hb,λh' tk hk=>?_⟩;refine⟨.bl _,H,I.kept λb o eo=>hk b o (λzd=>?_)<|iS _ eo,?_,q⟩
 ·rcases List.mem_cons.mp zd with e1|zd
  ·exact absurd (e1▸ej eo)<|nr _
  ·cases zd
 ·show Dc _=Dc _
  rw[<-any_range,hb,gx,ie]
end
mutual
inductive Dp(K:aq)(H:Hp):V->pA->Prop
 |cu:Dp K H .cu .none
 |bl b:Dp K H (.bl b)<|.bool b
 |int i:Dp K H (.int i)<|.int i
 |str x:Dp K H (.str x)<|.str x
 |lst {a:ak} {xs:af V} {ds:af pA}:SqL K H a xs->ye K H xs ds->Dp K H (.ref a) (.list ds)
 |tup {a:ak} {xs:af V} {ds:af pA}:cH K H a xs->ye K H xs ds->Dp K H (.ref a) (.tuple ds)
inductive ye K H:af V->af pA->Prop
 |nil:ye K H [] []
 |cons {v:V} {vs:af V} {d:pA} {ds:af pA}:Dp K H v d->ye K H vs ds->ye K H (v::vs) (d::ds)
end
section
variable{X:Cx}{ai:af (ak×eR)}{σ:St}{H:Hp}{s:c_}
mutual
theorem Dp.BO(I:Inv X ai σ H s):∀d v u,Dp X.K H v d->RelV v u-> ∃as,Reads s.heap u d as
 | .none,_,_,h,r=>by
  cases h
  cases r
  exact⟨_,Reads.none⟩
 | .bool b,_,_,h,r=>by
  cases h
  cases r
  exact⟨_,Reads.bool b⟩
 | .int i,_,_,h,r=>by
  cases h
  obtain⟨t,rfl⟩:=r;exact⟨_,Reads.int i t⟩
 | .str x,_,_,h,r=>by
  cases h
  obtain⟨t,rfl⟩:=r;exact⟨_,Reads.str x t⟩
 | .list ds,_,_,h,r=>by
  cases h with
  |lst hs ha=>
   cases r
   obtain⟨aZ,rv,⟨o,n,ho,hc,_,hd⟩,_⟩:=I.list hs;obtain⟨as,hr⟩:=Dp.zP I ds _ aZ ha rv;exact⟨_,Reads.list ho hc hd hr⟩
 | .tuple ds,_,_,h,r=>by
  cases h with
  |tup hs ha=>
   cases r
   obtain⟨aZ,rv,⟨o,ho,hc,n,hd⟩,_⟩:=I.tuple hs;obtain⟨as,hr⟩:=Dp.zP I ds _ aZ ha rv;exact⟨_,Reads.tuple ho hc hd hr⟩
 | .dict _,_,_,h,_=>by cases h
theorem Dp.zP(I:Inv X ai σ H s):∀ds vs us,ye X.K H vs ds->cJ vs us-> ∃as,ReadsAll s.heap us ds as
 |[],_,_,h,r=>by
  cases h
  cases r
  exact⟨_,ReadsAll.nil⟩
 |d::ds,_,_,h,r=>by
  cases h with
  |cons h1 h2=>
   cases r with
   |cons r1 r2=>
    obtain⟨as,q1⟩:=Dp.BO I d _ _ h1 r1;obtain⟨bs,q2⟩:=Dp.zP I ds _ _ h2 r2;exact⟨_,ReadsAll.cons q1 q2⟩
end
end
section
variable{X:Cx}
def rEqD(K:aq):R2:=λx y H Q=>∃d e,Dp K H x d/\Dp K H y e/\KA d=ao/\KA e=ao/\Q (.bl<|FW d e) H
theorem op_eqD(hu:X.A.units+64<oA):fY X (nI .Eq)<|rEqD X.K:=by
 intro ai s σ H x y v u Q I rx ry h;obtain⟨d,e,hd,he,sd,se,q⟩:=h;obtain⟨as,r1⟩:=Dp.BO I d x v hd rx;obtain⟨bs,r2⟩:=Dp.BO I e y u he ry;exact SeqAt.compareEq_shaped r1 r2 sd se hu ⟨.bl _,H,I,J,q⟩
end
end L2
namespace L2
open PySem PySem.Spec PyProof.Rows
abbrev Pp(h:b9)(c:ak)(v:au aH):Prop:=h.IsCell c v
def relS(aT sc:mx):mx:={aT with names:=aT.names.map λ(n,k)=>if(k== .free&&sc.kind== .function&&sc.names.lookup n==L .cell) then(n,.cell) else(n,k)}
def jD(wN:af<|ax×ak):af (ax×m_)->af (ax×ak)->af (ax×ak)
 |[],acc=>acc
 |(n,k)::r,acc=>if k== .free then jD wN r ((n,(wN.lookup n).getD 0)::acc) else jD wN r acc
theorem Q_(env:j9)(f:ax×m_->af (ax×ak)->Sem (ForInStep (af<|ax×ak)))
 (hf:∀n k c,f (n,k) c=if k== .free then(do let a<-cellOf env n;pure (.yield<|(n,a)::c)) else pure (.yield c)):
 ∀gQ acc,(∀y∈gQ,y.2= .free-> ∃c,env.cells.lookup y.1=L c)->forIn gQ acc f=pure (jD env.cells gQ acc)
 |[],acc,_=>by simp[List.forIn_nil];rfl
 |(n,k)::r,acc,h=>by
  rw[List.forIn_cons,hf];have ih:=λacc=>Q_ env f hf r acc λy hy=>h y<|gD _ hy;unfold jD;by_cases hk:(k==Kb)=ao
  ·rw[aK hk,aK hk]
   obtain⟨c,hc⟩:=h _ iB<|by simpa using hk
   have e:cellOf env n=pure c:=by unfold cellOf;rw[hc]
   rw[e];have e2:(env.cells.lookup n).getD 0=c:=by rw[hc];rfl
   rw[e2];exact ih _
  ·rw[ay hk,ay hk]
   exact ih _
theorem Ra(h:∀y∈aT.names,y.2= .free-> ∃c,env.cells.lookup y.1=L c):closureFor aT env=pure (jD env.cells aT.names []):=by
 simp only[closureFor];rw[Q_ env _ (λn k c=>J) aT.names [] h];rfl
theorem mem_lookup{α:Type}:∀{l:af (ax×α)}{n:ax}{c:α},(n,c)∈l-> ∃c',l.lookup n=L c'
 |(k,v)::r,n,c,h=>by
  rw[Ai]
  cases hb:n==k with
  |true=>exact⟨_,J⟩
  |false=>
   rcases List.mem_cons.mp h with e|h
   ·cases e;simp at hb
   ·exact mem_lookup h
theorem Gr:∀{gQ:af (ax×m_)}{acc:af (ax×ak)}{n:ax}{c:ak},(n,c)∈jD wN gQ acc->(n,c)∈acc\/((n,.free)∈gQ/\c=(wN.lookup n).getD 0)
 |[],_,_,_,h=>.inl h
 |(m,k)::r,acc,n,c,h=>by
  unfold jD at h
  split at h
  ·rename_i hk
   have hk:=by simpa using hk
   rcases Gr h with h|⟨h1,h2⟩
   ·rcases List.mem_cons.mp h with e|h
    ·cases e;exact .inr ⟨hk▸iB,J⟩
    ·exact .inl h
   ·exact .inr ⟨gD _ h1,h2⟩
  ·rcases Gr h with h|⟨h1,h2⟩
   ·exact .inl h
   ·exact .inr ⟨gD _ h1,h2⟩
theorem K1:∀{gQ:af (ax×m_)}{acc:af (ax×ak)}{p:ax×ak},p∈acc->p∈jD wN gQ acc
 |[],_,_,h=>h
 |(m,k)::r,acc,p,h=>by
  unfold jD
  split
  ·exact K1<|gD _ h
  ·exact K1 h
theorem K2:∀{gQ:af (ax×m_)}{acc:af (ax×ak)}{n:ax},(n,.free)∈gQ->(n,(wN.lookup n).getD 0)∈jD wN gQ acc
 |(m,k)::r,acc,n,h=>by
  unfold jD;rcases List.mem_cons.mp h with e|h
  ·cases e
   exact K1 iB
  ·split
   ·exact K2 h
   ·exact K2 h
theorem Dt:∀{gQ:af (ax×m_)}{h:b9}{acc:af (ax×ak)}{x:ax}{c:ak},(x,c)∈iH h.objs.size gQ acc->(x,c)∈acc\/((x,.cell)∈gQ/\h.objs.size<=c/\Pp (xK h gQ) c ah)
 |[],_,_,_,_,h=>.inl h
 |_::r,h,acc,x,c,hm=>by
  unfold iH at hm;unfold xK
  split at hm
  ·rename_i hk
   rw[aK hk];have hk:=by simpa using hk
   rw[<-ph h {cls:=.type "cell",data:=.cell ah}] at hm;rcases Dt hm with hm|⟨h1,h2,h3⟩
   ·rcases List.mem_cons.mp hm with e|hm
    ·cases e
     exact .inr ⟨hk▸iB,dQ _,_,Im r _ _ _ (pf _ J),J⟩
    ·exact .inl hm
   ·rw[ph] at h2
    exact .inr ⟨gD _ h1,Kd h2,h3⟩
  ·rename_i hk
   rw[ay hk];rcases Dt hm with hm|⟨h1,h2,h3⟩
   ·exact .inl hm
   ·exact .inr ⟨gD _ h1,h2,h3⟩
theorem Gq:∀{gQ:af (ax×m_)}{n:ag}{acc:af (ax×ak)}{p:ax×ak},p∈acc->p∈iH n gQ acc
 |[],_,_,_,h=>h
 |(m,k)::r,n,acc,p,h=>by
  unfold iH
  split
  ·exact Gq<|gD _ h
  ·exact Gq h
theorem KZ:∀{gQ:af (ax×m_)}{n:ag}{acc:af (ax×ak)}{x:ax},(x,.cell)∈gQ-> ∃c,(x,c)∈iH n gQ acc
 |(m,k)::r,n,acc,x,h=>by
  unfold iH;rcases List.mem_cons.mp h with e|h
  ·cases e
   exact⟨n,Gq iB⟩
  ·split
   ·exact KZ h
   ·exact KZ h
theorem K0:∀{gQ:af (ax×m_)}{h:b9}{acc:af (ax×ak)}{x y:ax}{c:ak},(∀p∈acc,p.2<h.objs.size)->(∀x y c,(x,c)∈acc->(y,c)∈acc->x=y)->(x,c)∈iH h.objs.size gQ acc->(y,c)∈iH h.objs.size gQ acc->x=y
 |[],_,_,_,_,_,_,hi,h1,h2=>hi _ _ _ h1 h2
 |_::r,h,acc,x,y,c,hl,hi,h1,h2=>by
  unfold iH at h1 h2
  split at h1
  ·rename_i hk
   rw[aK hk] at h2;rw[<-ph h {cls:=.type "cell",data:=.cell ah}] at h1 h2;refine K0 (λp hp=>?_) (λx y c a b=>?_) h1 h2
   ·rw[ph]
    rcases List.mem_cons.mp hp with rfl|hp
    ·exact FP _
    ·exact Kg<|hl p hp
   ·rcases List.mem_cons.mp a with e|a<;>rcases List.mem_cons.mp b with e'|b
    ·cases e;cases e';rfl
    ·cases e;exact absurd (hl _ b)<|nr _
    ·cases e';exact absurd (hl _ a)<|nr _
    ·exact hi _ _ _ a b
  ·rename_i hk
   rw[ay hk] at h2;exact K0 hl hi h1 h2
theorem TX{code:aH}
 (h:Q (newEnv aT s.heap.objs.size globals (iH (s.heap.objs.size+1) aT.names closure) cQ func code (L around) builtins)
   {s with heap:=xK (s.heap.push {cls:=.type "dict",data:=.dict #[]}) aT.names}):
 b_ aJ A (newFunctionEnv aT globals closure [] cQ func code (L around) builtins) Q E s:=by
 simp only[newFunctionEnv,Option.isSome_some,nT];refine dj<|wpAny_alloc ?_;refine dj<|wpAny_layCells _ (λn k c=>J) aT.names closure _ _ ?_;rw[show({s with heap:=s.heap.push {cls:=.type "dict",data:=.dict #[]}}:c_).heap.objs.size=s.heap.objs.size+1 from ph ..];exact dj (gg<|gg h)
theorem Mc{sc:mx}:∀{gQ:af (ax×m_)}{x:ax}{k:m_},(gQ.map λ(n,k)=>if(k==Kb&&sc.kind== .function&&sc.names.lookup n==L .cell) then(n,NameKind.cell) else(n,k)).lookup x=L k->
 ∃k',gQ.lookup x=L k'/\(k=k'\/(k'= .free/\k= .cell))
 |[],_,_,h=>by simp at h
 |(n,k₀)::r,x,k,h=>by
  have ih:=@Mc sc r x k;have h':yk x ((if _=ao then _ else _)::(r.map _))=L k:=h
  cases hx:x==n with
  |true=>
   simp only[Ai,hx];by_cases hc:(k₀==Kb&&sc.kind== .function&&sc.names.lookup n==L .cell)=ao
   ·rw[aK hc] at h'
    simp[Ai,hx] at h'
    cases h'
    simp[eX,beq_iff_eq] at hc;exact⟨k₀,J,.inr ⟨hc.1.1,J⟩⟩
   ·rw[ay hc] at h'
    simp[Ai,hx] at h'
    cases h'
    exact⟨_,J,.inl J⟩
  |false=>
   simp[Ai,hx];by_cases hc:(k₀==Kb&&sc.kind== .function&&sc.names.lookup n==L .cell)=ao
   ·rw[aK hc] at h'
    simp only[Ai,hx] at h';exact ih h'
   ·rw[ay hc] at h'
    simp only[Ai,hx] at h';exact ih h'
structure vY(N:af ax)(sc aT:mx)(own:af<|ax×ag):Prop where
 kind:aT.kind= .function
 Aa:∀y∈aT.names,aT.names.lookup y.1=L y.2
 ix:∀p∈own,N[p.2]? =L p.1
 free:∀y∈aT.names,y.2= .free->sc.names.lookup y.1=L .cell\/sc.names.lookup y.1=L .free
 own:∀y∈aT.names,y.2= .local\/y.2= .cell->y.1∈own.map (·.1)\/y.1∉N
def da(σ:St):af ag->St
 |[]=>σ
 |v::vs=>(da σ vs).set v ah
theorem JJ(σ:St):∀vs,(da σ vs).length=σ.length
 |[]=>rfl
 |v::vs=>by unfold da;rw[pk,JJ σ vs]
theorem JK:∀{vs:af ag},(da σ vs)[i]? =L (L x)->σ[i]? =L (L x)/\i∉vs
 |[],h=>⟨h,by simp⟩
 |v::vs,h=>by
  unfold da at h;by_cases hi:v=i
  ·subst hi
   by_cases hv:v<(da σ vs).length
   ·rw[Ct hv] at h;cases h
   ·rw[Cr<|by simpa using hv] at h;cases h
  ·rw[Ah hi] at h
   obtain⟨h1,h2⟩:=JK h;exact⟨h1,by simp[J',not_or];exact⟨λe=>hi e.symm,h2⟩⟩
abbrev Cx.ki(X:Cx)(s:c_)(H:Hp)(aT:mx)(f_:j9)(fp:af ak):Cx:={X with gK:=s,tX:=H,env:=f_,bA:=X.stack,ex:=fp,fn:=λx=>aT.names.lookup x==L .cell,pn:=[],xe:=λ_ _=>e_}
section
variable{X:Cx}{ai:af (ak×eR)}{σ:St}{H:Hp}{s:c_}
theorem QY(I:Inv X ai σ H s)(ok:vY X.N X.env.scope aT own)(hN:X.N.Nodup)(wY:∀b∈fp,lA X ai H b/\b<s.heap.objs.size):Inv (X.ki s H aT (jE aT (iH (s.heap.objs.size+1) aT.names<|jD X.env.cells aT.names []) s.heap.objs.size X.env) fp) [] (da σ (own.map (·.2))) H {s with heap:=xK (s.heap.push {cls:=.type "dict",data:=.dict #[]}) aT.names}:=by
 have wZ:∀y∈aT.names,y.2= .free-> ∃c,X.env.cells.lookup y.1=L c:=λy hy e=>by
  rcases ok.free y hy e with k|k
  ·exact I.ok.uK _<|.inl k
  ·exact I.ok.uK _<|.inr k
 generalize DM:jE aT _ s.heap.objs.size X.env=f_;have kp:∀b o,s.heap.get? b=L o->(xK (s.heap.push {cls:=.type "dict",data:=.dict #[]}) aT.names).get? b=L o:=λb o e=>Im _ _ _ _<|iS _ e;have hL:f_.locals=s.heap.objs.size:=by rw[<-DM];rfl
 have y':f_.cells=iH (s.heap.objs.size+1) aT.names (jD X.env.cells aT.names []):=by rw[<-DM];rfl
 have ze:f_.scope=relS aT X.env.scope:=by rw[<-DM];rfl
 rw[<-ph s.heap {cls:=.type "dict",data:=.dict #[]}] at y';have cm:∀{y c},(y,c)∈jD X.env.cells aT.names []->X.env.cells.lookup y=L c/\c<s.heap.objs.size:=λ{y c}hm=>by
  rcases Gr hm with hm|⟨h1,rfl⟩
  ·cases hm
  ·obtain⟨c,hc⟩:=wZ _ h1 J
   rw[hc];obtain⟨w,z⟩:=I.cell _ _ hc;exact⟨J,z.lt⟩
 have mem:∀{y c},f_.cells.lookup y=L c->_\/(s.heap.objs.size+1<=c/\Pp _ c ah):=λ{y c}e=>by
  rw[y'] at e;rcases Dt (jR e) with hm|⟨_,h2,h3⟩
  ·exact .inl<|cm hm
  ·rw[ph] at h2;exact .inr ⟨h2,h3⟩
 have Bp:∀{y},aT.names.lookup y=L .free-> ∃c,f_.cells.lookup y=L c/\X.env.cells.lookup y=L c:=λ{y}hl=>by
  have hy:=jR hl;obtain⟨c',e'⟩:=mem_lookup (Gq<|K2 hy);rw[<-y'] at e';refine⟨c',e',?_⟩;rw[y'] at e';rcases Dt (jR e') with hm|⟨h1,_,_⟩
  ·exact(cm hm).1
  ·have:=ok.Aa _ h1
   rw[hl] at this;cases this
 have eV:(X.ki s H aT f_ fp).Ok:=by
  refine⟨I.ok.mod,by rw[ze];exact ok.kind,by rw[<-DM];exact I.ok.uH,by rw[<-DM];exact I.ok.AN,by rw[hL];exact dQ _,λy z c e1 e2=>?_,λy hy=>?_,λy c z e=>?_,I.ok.hd,I.ok.frames,.inl J,λb hb=>⟨?_,λy c e z=>?_⟩,I.bs,dN I.ok.qI I.sz,λb o e hb=>?_,λb hb z=>?_,I.stack,I.OH⟩
  ·have e1:=e1
   rw[y'] at e1 e2;refine K0 (λp hp=>?_) (λy z c a b=>I.ok.inj y z c (cm a).1 (cm b).1) (jR e1)<|jR e2;rw[ph];exact Kg (cm hp).2
  ·show∃c,f_.cells.lookup y=L c
   have d5:∀k,f_.kindOf y=L k->(k= .cell\/k= .free)-> ∃c,f_.cells.lookup y=L c:=λk hk pU=>by
    unfold Env.kindOf at hk;rw[ze] at hk;obtain⟨k',e,r⟩:=Mc hk;have:k'= .cell\/k'= .free:=by
     rcases r with rfl|⟨rfl,_⟩
     ·exact pU
     ·exact .inr J
    rcases this with rfl|rfl
    ·obtain⟨c,hm⟩:=KZ<|jR e
     obtain⟨c',e'⟩:=mem_lookup hm;exact⟨c',by rw[y'];exact e'⟩
    ·obtain⟨c,h1,_⟩:=Bp e
     exact⟨c,h1⟩
   rcases hy with hy|hy
   ·exact d5 _ hy<|.inl J
   ·exact d5 _ hy<|.inr J
  ·have z:=z
   have z:=by simpa using z
   rw[y'] at e;rcases Dt (jR e) with hm|⟨_,h2,_⟩
   ·rcases Gr hm with hm|⟨h1,_⟩
    ·cases hm
    ·have q:=ok.Aa _ h1
     rw[z] at q;cases q
   ·rw[ph] at h2
    exact Kd h2
  ·show b≠f_.locals
   rw[hL];exact j_ (wY b hb).2
  ·have e:=e
   rcases mem e with⟨h1,_⟩|⟨h1,_⟩
   ·exact(wY b hb).1.2.2.2.2.1 y c h1 z
   ·have h2:s.heap.objs.size+1<=b:=by rw[<-z];exact h1
    exact absurd (gy (wY b hb).2<|Kd h2)<|nr _
  ·rcases(wY b hb).1.2.2.2.1 with z|z
   ·exact I.ok.Ei b o e z
   ·exact absurd (gy (ej e) (dN I.ok.qI z)) (nr _)
  ·rcases List.mem_cons.mp (I.B4 b z) with z|z
   ·exact(wY b hb).1.2.1 z
   ·exact(wY b hb).1.2.2.1 z
 refine⟨eV,J,I.eG,Un.kept kp,⟨λ_=>ah,?_,λi y av e1 e2 e3=>?_⟩,λy c e=>?_,?_,λy c e=>?_,λp hp=>?_,I.bL.kept kp,by rw[JJ];exact I.bH⟩
 ·show Heap.Ns _ f_.locals _
  rw[hL];exact Heap.Ns.keeps (Heap.Ns.new ..) λb o e=>Im _ _ _ _ e
 ·obtain⟨e2,gZ⟩:=JK e2
  have sL:aT.names.lookup y=L .free/\(f_.kindOf y=L .cell\/f_.kindOf y=L .free):=by
   have d5:∀k,f_.scope.names.lookup y=L k->k= .local\/k= .cell\/k= .free->aT.names.lookup y=L .free/\(f_.kindOf y=L .cell\/f_.kindOf y=L .free):=λk hk pU=>by
    have Sv:=hk;rw[ze] at hk;obtain⟨k',e,r⟩:=Mc hk;have no:¬_:=λhh=>by
     rcases ok.own _ (jR e) hh with e'|e'
     ·obtain⟨p,hp,hpy⟩:=List.mem_map.mp e'
      have e3:=ok.ix p hp;have:=hpy;rw[this] at e3;exact gZ<|List.mem_map.mpr ⟨p,hp,My hN e3 e1⟩
     ·exact e'<|j' e1
    rcases r with rfl|⟨rfl,rfl⟩
    ·rcases pU with rfl|rfl|rfl
     ·exact absurd (.inl J) no
     ·exact absurd (.inr J) no
     ·exact⟨e,.inr Sv⟩
    ·exact⟨e,.inl Sv⟩
   rcases e3 with e3|e3|e3
   ·exact d5 _ e3<|.inl J
   ·exact d5 _ e3 (.inr<|.inl J)
   ·exact d5 _ e3 (.inr<|.inr J)
  obtain⟨m,hn,hl⟩:=I.hZ;have hvis:De X.env.scope y:=(ok.free _ (jR sL.1) J).elim (λk=>.inr<|.inl k) λk=>.inr<|.inr k;obtain⟨w,r,q⟩:=hl i y av e1 e2 hvis;refine⟨w,r,.inr ⟨sL.2,?_⟩⟩;obtain⟨c,h1,h2⟩:=Bp sL.1;rcases q with⟨k,_⟩|⟨_,c',e',z⟩
  ·have k:X.env.scope.names.lookup y=L .local:=k
   rcases ok.free _ (jR sL.1) J with k'|k'<;>rw[show X.env.scope.names.lookup y=_ from k'] at k<;>cases k
  ·rw[h2] at e';cases e'
   exact⟨c,h1,z.keeps kp⟩
 ·have e:=e
  rcases mem e with⟨h1,_⟩|⟨_,z⟩
  ·obtain⟨w,z⟩:=I.cell y c h1
   exact⟨w,z.keeps kp⟩
  ·exact⟨_,z⟩
 ·show H f_.locals=ah
  rw[hL];exact I.bL.fresh<|dQ _
 ·have e:=e
  rcases mem e with⟨h1,_⟩|⟨h1,_⟩
  ·exact I.jY y c h1
  ·exact I.bL.fresh<|Kd h1
 ·exact absurd (show p∈[]++[] from hp)<|by simp
theorem QG(I:Inv X ai σ H s)(hD:H D=L (.lst xs))(hz:xs.length<bI)(r:RelV y v)
 (h:∀s',Inv X ai σ (aC H D (.lst<|xs++[y])) s'->Q .none s'):b_ (bX X.prog X.w) X.A (call (.builtin "list.append") [.ref D,v]) Q E s:=by
 obtain⟨hz',aZ,n,ri,e⟩:=I.bL D _ hD;have hl:=ri.length;refine append_at e λh' sb nQ=>?_;refine h {s with heap:=h'} (I.vV (by rw[hD];trivial) (.inl J) (λb u hb q=>(sb.2 b hb).trans q) ⟨_,nQ⟩ ⟨by rw[iT];exact hz,aZ++[v],n+1,ri.append<|.cons r .nil,?_⟩);rw[nQ];simp
def Ap(X:Cx)(lQ:af Expr)(t:TT):Prop:=∀ai s(σ:St)H Q,Inv X ai σ H s->t σ H Q->b_ (bX X.prog X.w) X.A (forIn lQ ao λc r=>if r=ao then do let ok<-Hl c X.env<|dg c X.env;pure (JV ok) else pure (JV r)) (TP X ai σ Q) X.xe s
def oZ:TT:=λ_ H Q=>Q ao H
theorem jo:Ap X [] oZ:=λ_ _ _ H _ I h=>wpAny_tests_nil ⟨H,I,h⟩
end
theorem vQ{t:Sem α}{Q Q':α->c_->Prop}(h:b_ aJ A t Q (λ_ _=>e_) s)(hQ:∀a s,Q a s->Q' a s):b_ aJ A t Q' E s:=lr h hQ λ_ _ z=>ic z
theorem Rb(I:ag->c_->Prop)
 (turn:∀n s,I n s->b_ (bX prog w) A (pyNext it) (λr eQ=>match r with
   |none=>R (.ok .next) eQ
   |some v=>b_ (bX prog w) A (S8 Jy it v) (λ_ WK=>b_ (bX prog w) A (Ga Jy env v) (λ_ j6=>
    b_ (bX prog w) A (forIn lQ ao λc r=>if r=ao then do let ok<-Hl c env<|dg c env;pure (JV ok) else pure (JV r)) (λok xW=>
     if ok=ao then b_ (bX prog w) A (dg elt env) (λx WL=>
      b_ (bX prog w) A (call (.builtin "list.append") [acc,x]) (λ_ WM=>∃m,m<n/\I m WM) (xo (bX prog w) A env λe s'=>R (.error e) s') WL) (xo (bX prog w) A env λe s'=>R (.error e) s') xW
     else∃m,m<n/\I m xW) (xo (bX prog w) A env λe s'=>R (.error e) s') j6) (xo (bX prog w) A env λe s'=>R (.error e) s') WK) (xo (bX prog w) A env λe s'=>R (.error e) s') eQ) (xo (bX prog w) A env λe s'=>R (.error e) s') s)
 (n:ag) (h:I n s):
 uD (bX prog w) A (.compLoop (.ListComp elt [⟨Jy,ik,lQ,0⟩] aT pos) 0 it acc env) R s:=by
 refine codeAny_loop J I (λn s hI=>?_) n h;refine wpAny_noted ?_;refine dj (Xl<|dj (lr (turn n s hI) (λr eQ Hg=>?_) λ_ _ h'=>h'))
 cases r with
 |none=>exact gg Hg
 |some v=>
  refine dj (lr Hg (λ_ WK h₁'=>?_) λ_ _ h'=>h');refine dj (lr h₁' (λ_ j6 DV=>dj (lr DV (λok xW Hh=>?_) λ_ _ h'=>h')) λ_ _ h'=>h')
  cases ok with
  |false=>exact gg ⟨J,Hh⟩
  |true=>
   exact dj<|dj (lr Hh (λx WL h₄=>dj<|lr h₄ (λ_ WM h₅=>gg<|gg ⟨J,h₅⟩) λ_ _ h'=>h') λ_ _ h'=>h')
section
variable{X:Cx}
def mP(wi:TI)(g:TG)(tt:TT)(te:TE)(vs:af ag):TE:=λσ H Q=>wi σ H λcG U=>∀D,U D=ah-> ∃W:ag->ag->Hp->Prop,(∃m,W 0 m (aC U D<|.lst []))/\ ∀i m H,W i m H->(cG.me i H/\Q (.ref D) H)\/(cG.go i H/\ ∃Nx:Hp->Prop,(∀H',Nx H'-> ∃m',m'<m/\W (i+1) m' H')/\ ∀x H',cG.tP i H x H'->g x (da σ vs) H' λde H2=>da de vs=da σ vs/\tt de H2 λb H3=>
                                                                                                                                                       if b=ao then te de H3 λy H4=>∃acc,H4 D=L (.lst acc)/\acc.length<bI/\Nx (aC H4 D (.lst<|acc++[y])) else Nx H3)
theorem lc_core{σ:St}{H:Hp}{Q:VK}{wi:TI}{g:TG}{tt:TT}{te:TE}
 (hc:X.kj=ao) (hN:X.N.Nodup) (I:Inv X ai σ H s) (hi:PI X tg ik wi) (ok:vY X.N X.env.scope aT own)
 (hg:∀(s:c_)(H:Hp)(C:ak)cl fp,PG (X.ki s H aT (jE aT cl C X.env) fp) tg g) (ht:∀(s:c_)(H:Hp)(C:ak)cl fp,Ap (X.ki s H aT (jE aT cl C X.env) fp) lQ tt)
 (he:∀(s:c_)(H:Hp)(C:ak)cl fp,PE (X.ki s H aT (jE aT cl C X.env) fp) elt te) (hs:∀x,DF ik X.env x=pure x)
 (h:mP wi g tt te (own.map (·.2)) σ H Q)
 (LB:∀D C s' m H',Inv X ai σ H' s'->Q (.ref D) H'->s'.heap.Ns C m->lA X ai H' C->Du (bX X.prog X.w) X.A X.xe use Qf (.ref D) C (.ok .next) s'):
 b_ (bX X.prog X.w) X.A (comprehension (.ListComp elt [⟨tg,ik,lQ,0⟩] aT pos) aT X.env oO (newList []) aM (dg ik X.env) use) Qf X.xe s:=by
 have wZ:∀y∈aT.names,y.2= .free-> ∃c,X.env.cells.lookup y.1=L c:=λy hy e=>by
  rcases ok.free y hy e with k|k
  ·exact I.ok.uK _<|.inl k
  ·exact I.ok.uK _<|.inr k
 refine wpAny_comprehension_free (use:=use) J hs (Ra wZ) ok.kind (λy hy e=>by rw[ok.Aa y hy,e])
  (cn (hi ai s σ H _ I h) λxv s1 hx=>cn hx λHn s2 h2=>?_)
 sleep 3;obtain⟨it,fp,tn,cG,H2,e,I2,T,mM,f2,q⟩:=h2;sleep 4;subst e;refine Fv (TX ?_) (by show 0<=bI;decide);generalize hD:s2.heap.objs.size=D;have Ly:=I2.bL.fresh<|CA hD;sleep 3;obtain⟨W,⟨m0,w0⟩,turn⟩:=q D Ly;sleep 4;generalize DS:({s2 with heap:=s2.heap.push {cls:=.type "list",data:=.seq [].toArray}}:c_)=s3;have I3:Inv X ai σ (aC H2 D<|.lst []) s3:=by
  rw[<-DS];refine I2.kR (λb o e=>iS _ e) (CA hD) ⟨eM _,[],0,.nil,?_⟩;rw[<-hD];exact pf _ J
 have h3:s3.heap=s2.heap.push {cls:=.type "list",data:=.seq [].toArray}:=by rw[<-DS]
 have sz:∀b∈fp,b<s2.heap.objs.size:=λb hb=>by
  obtain⟨o,e,_⟩:=T.obj _ _ mM b hb;exact ej e
 have f3:∀b∈fp,lA X ai (aC H2 D<|.lst []) b/\b<s3.heap.objs.size:=λb hb=>by
  have d9:=sz b hb;refine⟨⟨?_,(f2 b hb).2⟩,by rw[h3,ph];exact Kg d9⟩;rw[bJ (by rw[<-hD];exact j_ d9)];exact(f2 b hb).1
 have B3:tn 0 s3.heap:=T.keep _ _ _ mM λb _ o e=>by rw[h3];exact iS _ e
 have I4:=QY I3 ok hN f3;have pg:=hg s3 (aC H2 D<|.lst []) s3.heap.objs.size (iH (s3.heap.objs.size+1) aT.names<|jD X.env.cells aT.names []) fp;have pt:=ht s3 (aC H2 D<|.lst []) s3.heap.objs.size (iH (s3.heap.objs.size+1) aT.names<|jD X.env.cells aT.names []) fp;have pe:=he s3 (aC H2 D<|.lst []) s3.heap.objs.size (iH (s3.heap.objs.size+1) aT.names<|jD X.env.cells aT.names []) fp;show uD _ _ (.compStart _ 0 (.ref it) (.ref D)<|jE aT (iH _ aT.names _) s3.heap.objs.size X.env) _ {s3 with heap:=xK _ aT.names};have Ed:=λb hb=>(f3 b hb).1.1;generalize Bb:jE aT _ s3.heap.objs.size X.env=ce at I4 pg pt pe⊢;have cL:ce.locals=s3.heap.objs.size:=by subst Bb;rfl
 generalize hH3:aC H2 D (.lst [])=H3 at I3 I4 pg pt pe w0 Ed f3;generalize LU:({s3 with heap:=xK _ aT.names}:c_)=s4 at I4⊢;have Fi:tn 0 s4.heap:=T.keep _ _ _ B3 λb _ o e=>by rw[<-LU];exact Im _ _ _ _<|iS _ e
 have rC:∀{aS:St}{H':Hp}{s':c_},Inv _ [] aS H' s'->(∀b∈fp,H' b=ah)-> ∀b∈fp,lA (X.ki s3 H3 aT ce fp) [] H' b:=λ{aS H' s'}I' hn b hb=>
  ⟨hn b hb,(I'.ok.AS b hb).1,I'.ok.AU b hb,.inl hb,λx c e=>(I'.ok.AS b hb).2 x c e,λp hp=>absurd (show p∈[]++[] from hp)<|by simp⟩
 have D7:uD (bX X.prog X.w) X.A (.compLoop (.ListComp elt [⟨tg,ik,lQ,0⟩] aT pos) 0 (.ref it) (.ref D) ce) (Du (bX X.prog X.w) X.A X.xe use Qf (.ref D) s3.heap.objs.size) s4:=by
  refine Rb (λn s'=>∃i H',Inv _ [] _ H' s'/\tn i s'.heap/\(∀b∈fp,H' b=ah)/\W i n H') ?_ m0 ⟨0,H3,I4,Fi,Ed,w0⟩
  rintro n s5 ⟨i,H5,I5,st5,n5,w5⟩
  rcases turn i n H5 w5 with⟨me,qq⟩|⟨go,Nx,hNx,step⟩
  ·have td:=T.done (X.ki s3 H3 aT ce fp) J J J hc i [] s5 _ H5 (λ_ _=>e_) I5 (rC I5 n5) st5 me
   refine vQ td λr s6⟨hr,I6⟩=>?_;subst hr;have I7:=I3.Q6 (ch:=fp) I6.os I6.base I6.bL I6.eG λb hb=>⟨(f3 b hb).1.2.2.2.1,(f3 b hb).1.2.1,(f3 b hb).1.2.2.2.2.1,(f3 b hb).1.2.2.2.2.2⟩;have nC:=by
    have z:=I6.free;rw[cL] at z;exact z
   obtain⟨m,hn,_⟩:=I6.hZ;rw[cL] at hn;exact LB D s3.heap.objs.size s6 m H5 I7 qq hn<|I3.yS (dQ _) nC
  ·have ti:=T.item (X.ki s3 H3 aT ce fp) J J J hc i [] s5 _ H5 (λ_ _=>e_) I5 (rC I5 n5) st5 go
   refine vQ ti λr s6⟨u,hr,h6⟩=>?_;subst hr;refine vQ h6 λ_ s7⟨x,H7,I7,r7,y7,st7,n7⟩=>?_;have JZ:=I7.M9 (rC I7 n7)<|T.obj _ _ st7;refine vQ (pg _ s7 _ H7 x u _ JZ r7<|step x H7 y7) λ_ s8⟨vX,H8,I8,hw8,q8⟩=>?_;refine vQ (pt _ s8 vX H8 _ I8 q8) λb s9⟨H9,I9,q9⟩=>?_;have dr:∀{s':c_}{H':Hp},Inv _ ([]++EE fp s7.heap) vX H' s'->Nx H'-> ∃m,m<n/\ ∃i H',Inv (X.ki s3 H3 aT ce fp) [] _ H' s'/\tn i s'.heap/\(∀b∈fp,H' b=ah)/\W i m H':=λ{s' H'}I' nx=>by
    obtain⟨m',hm,w'⟩:=hNx H' nx;have ED:∀b∈fp,∀o,s7.heap.get? b=L o->s'.heap.get? b=L o/\H' b=ah:=λb hb o e=>
     let z:=I'.jn (b,o) (ud _ (ud _<|Hy hb e))
     ⟨z.1,z.2.1⟩
    have hl:(da σ (own.map (·.2))).length=vX.length:=by rw[<-hw8,JJ]
    refine⟨m',hm,i+1,H',(I'.Fp (ai:=[])).tN hl λj v e=>?_,T.keep _ _ _ st7 λb hb o e=>(ED b hb o e).1,λb hb=>?_,w'⟩
    ·rw[<-hw8] at e
     exact(JK e).1
    ·obtain⟨o,e,_⟩:=T.obj _ _ st7 b hb
     exact(ED b hb o e).2
   cases b with
   |false=>
    exact dr I9 q9
   |true=>
    refine vQ (pe _ s9 vX H9 _ I9 q9) λz BQ⟨yv,yg,I10,r10,acc,hD10,hz10,nx⟩=>?_;exact QG (X:=X.ki s3 H3 aT ce fp) I10 hD10 hz10 r10 λs11 JY=>dr JY nx
 exact ZZ D7<|T.vK X.A 0 _ _ _ Fi D7
theorem UR(hc:X.kj=ao)(hN:X.N.Nodup)(hi:PI X tg ik wi)(ok:vY X.N X.env.scope aT own)
 (hg:∀s H C cl fp,PG (X.ki s H aT (jE aT cl C X.env) fp) tg g) (ht:∀s H C cl fp,Ap (X.ki s H aT (jE aT cl C X.env) fp) lQ tt)
 (he:∀s H C cl fp,PE (X.ki s H aT (jE aT cl C X.env) fp) elt te) (hs:∀x,DF ik X.env x=pure x:=by intro _;rfl):
 PE X (.ListComp elt [⟨tg,ik,lQ,0⟩] aT pos) (mP wi g tt te (own.map (·.2))):=by
 intro ai s σ H Q I h;refine lc_core hc hN I hi ok hg ht he hs h λD C s' m H' I' q hn f=>⟨m,hn,λA9 sb=>?_⟩;obtain⟨f0,f1,f2,f3,f4,f5⟩:=f;exact⟨.ref D,H',I'.turned (λb o hb e=>(sb.2 b hb).trans e) f0 f1 f3 f4 f5,J,q⟩
theorem B7(hk:env.scope.kind= .function)(hy:env.scope.names.lookup y=L .local)(hl:(py.line==pos.line)=ao)
 (ha:(aT.names.any λ(n,k)=>n==y&&(k== .local||k== .cell))=aM):z7 (.ListComp elt gs aT pos) (L<|.Name y py) l env=pure ao:=by
 have ky:env.kindOf y=L .local:=hy;have hb:env.blockKind= .function:=by unfold Env.blockKind;rw[hk];rfl
 unfold z7;simp only[hb,ky,ha,Expr.pos,hl];rfl
end
theorem Ht{lo:ae}{g:TG}{tt:TT}{te:TE}{Qd:Hp->Prop}(Pv:ag->Hp->Prop)(h0:Pv 0 (aC U D<|.lst []))
 (hs:∀i H,i<n->Pv i H->g (.int<|lo+i) (da σ vs) H λde H2=>da de vs=da σ vs/\tt de H2 λb H3=>
   if b=ao then te de H3 λy H4=>∃acc,H4 D=L (.lst acc)/\acc.length<bI/\Pv (i+1) (aC H4 D (.lst<|acc++[y])) else Pv (i+1) H3) (hd:∀H,Pv n H->Qd H):
 ∃W:ag->ag->Hp->Prop,(∃m,W 0 m (aC U D<|.lst []))/\ ∀i m H,W i m H->((tY lo n).me i H/\Qd H)\/((tY lo n).go i H/\ ∃Nx:Hp->Prop,(∀H',Nx H'-> ∃m',m'<m/\W (i+1) m' H')/\ ∀x H',(tY lo n).tP i H x H'->g x (da σ vs) H' λde H2=>da de vs=da σ vs/\tt de H2 λb H3=>
                                                                      if b=ao then te de H3 λy H4=>∃acc,H4 D=L (.lst acc)/\acc.length<bI/\Nx (aC H4 D (.lst<|acc++[y])) else Nx H3):=by
 refine⟨λi m H=>m=n-i/\i<=n/\Pv i H,⟨n,by simp,eM _,h0⟩,?_⟩
 rintro i m H ⟨rfl,hi,p⟩
 by_cases d9:i<n
 ·refine .inr ⟨d9,Pv<|i+1,λH' p'=>⟨n-(i+1),om,J,d9,p'⟩,λx H' y=>?_⟩
  obtain⟨e,y⟩:=y;subst e y;exact hs i _ d9 p
 ·have e:i=n:=by omega
  subst e;exact .inl ⟨dQ _,hd H p⟩
theorem Hs{K:aq}{g:TG}{tt:TT}{te:TE}{Qd:Hp->Prop}(Pv:ag->Hp->Prop)(h0:Pv 0 (aC U D<|.lst []))(hl:∀i H,i<=xs.length->Pv i H->SqL K H a xs)
 (hs:∀i x H,xs[i]? =L x->Pv i H->g x (da σ vs) H λde H2=>da de vs=da σ vs/\tt de H2 λb H3=>
   if b=ao then te de H3 λy H4=>∃acc,H4 D=L (.lst acc)/\acc.length<bI/\Pv (i+1) (aC H4 D (.lst<|acc++[y])) else Pv (i+1) H3) (hd:∀H,Pv xs.length H->Qd H):
 ∃W:ag->ag->Hp->Prop,(∃m,W 0 m (aC U D<|.lst []))/\ ∀i m H,W i m H->((wg K a).me i H/\Qd H)\/((wg K a).go i H/\ ∃Nx:Hp->Prop,(∀H',Nx H'-> ∃m',m'<m/\W (i+1) m' H')/\ ∀x H',(wg K a).tP i H x H'->g x (da σ vs) H' λde H2=>da de vs=da σ vs/\tt de H2 λb H3=>
                                                                      if b=ao then te de H3 λy H4=>∃acc,H4 D=L (.lst acc)/\acc.length<bI/\Nx (aC H4 D (.lst<|acc++[y])) else Nx H3):=by
 refine⟨λi m H=>m=xs.length-i/\i<=xs.length/\Pv i H,⟨xs.length,by simp,eM _,h0⟩,?_⟩
 rintro i m H ⟨rfl,hi,p⟩
 have q:=hl i H hi p;by_cases d9:i<xs.length
 ·refine .inr ⟨⟨xs,xs[i],q,by simp[d9]⟩,Pv<|i+1,λH' p'=>⟨xs.length-(i+1),om,J,d9,p'⟩,λx H' y=>?_⟩
  obtain⟨e,y⟩:=y;subst e;exact hs i x _ (y xs q) p
 ·have e:i=xs.length:=by omega
  subst e;exact .inl ⟨⟨xs,q,dQ _⟩,hd H p⟩
def KR(N:af ax)(sc aT:mx)(own:af<|ax×ag):df:=(match aT.kind with| .function=>ao|_=>aM)&&(aT.names.all λy=>decide (aT.names.lookup y.1=L y.2))&&(own.all λp=>decide (N[p.2]? =L p.1))&&
                                               (aT.names.all λy=>match y.2 with
                                                 | .free=>(match sc.names.lookup y.1 with|some .cell=>ao|some .free=>ao|_=>aM)
                                                 | .local=>decide (y.1∈own.map (·.1))||decide (y.1∉N)
                                                 | .cell=>decide (y.1∈own.map (·.1))||decide (y.1∉N)
                                                 |_=>ao)
theorem ZK(h:KR N sc aT own=ao):vY N sc aT own:=by
 unfold KR at h;simp only[eX,PH,kl] at h;obtain⟨⟨⟨h1,h2⟩,h3⟩,h4⟩:=h;refine⟨?_,h2,h3,λy hy e=>?_,λy hy e=>?_⟩
 ·split at h1
  ·assumption
  ·cases h1
 ·have q:=h4 y hy
  simp[e] at q
  split at q<;>first|exact .inl (by assumption)|exact .inr (by assumption)|cases q
 ·have q:=h4 y hy
  rcases e with e|e<;>(simp only[e,Fy,kl] at q;exact q)
end L2
namespace L2
open PySem PySem.Spec PyProof.Rows
section
variable{κ:Type}[DecidableEq κ]
def fF(aW:af<|κ×V)(k:κ):au V:=(aW.find? λkv=>decide (kv.1=k)).map (·.2)
def i8(aW:af<|κ×V)(k:κ)(v:V):af<|κ×V:=if(aW.any λkv=>decide (kv.1=k))=ao then aW.map (λkv=>if kv.1=k then(kv.1,v) else kv) else aW++[(k,v)]
theorem rF{r:af (κ×V)}{k:κ}(e:p.1=k):fF (p::r) k=L p.2:=by simp[fF,List.find?_cons,e]
theorem rE{r:af (κ×V)}{k:κ}(e:¬p.1=k):fF (p::r) k=fF r k:=by simp[fF,List.find?_cons,e]
theorem Fq(k:κ):∀aW,(aW.any λkv=>decide (kv.1=k))=(fF aW k).isSome
 |[]=>rfl
 |p::r=>by
  rw[yh];by_cases e:p.1=k
  ·simp[rF e,dF e,Xy,Option.isSome_some]
  ·simp[rE e,hX e,tU];exact Fq k r
theorem W_(k j:κ)(y:V):∀aW,fF (aW.map λkv=>if kv.1=k then(kv.1,y) else kv) j=(fF aW j).map λx=>if j=k then y else x
 |[]=>rfl
 |p::r=>by
  have ih:=W_ k j y r;rw[kK];by_cases h:p.1=k
  ·rw[aK h]
   by_cases e:p.1=j
   ·rw[rF (p:=(p.1,y)) e,rF e,wt,aK<|e.symm.trans h]
   ·rw[rE (p:=(p.1,y)) e,rE e,ih]
  ·rw[ay h]
   by_cases e:p.1=j
   ·rw[rF e,rF e,wt,ay λz=>h<|e.trans z]
   ·rw[rE e,rE e,ih]
theorem Xa(k j:κ)(y:V):∀aW,fF aW k=ah->fF (aW++[(k,y)]) j=if j=k then L y else fF aW j
 |[],_=>by
  by_cases e:k=j
  ·rw[aK e.symm];exact rF e
  ·rw[ay λz=>e z.symm];exact rE e
 |p::r,hn=>by
  simp[List.cons_append];have hk:¬p.1=k:=λz=>by rw[rF z] at hn;cases hn
  rw[rE hk] at hn;have ih:=Xa k j y r hn;by_cases e:p.1=j
  ·rw[rF e,rF e,ay λz=>hk<|e.trans z]
  ·rw[rE e,rE e,ih]
theorem B9(aW:af<|κ×V)(k j:κ)(y:V):fF (i8 aW k y) j=if j=k then L y else fF aW j:=by
 unfold i8;by_cases a:(aW.any λkv=>decide (kv.1=k))=ao
 ·rw[aK a,W_]
  rw[Fq] at a;by_cases e:j=k
  ·obtain⟨x,hx⟩:=Option.isSome_iff_exists.mp a
   rw[aK e,e,hx,wt,aK J]
  ·rw[ay e]
   cases fF aW j with
   |none=>rfl
   |some x=>rw[wt,ay e]
 ·rw[ay a]
  refine Xa k j y aW ?_;rw[Fq] at a
  cases q:fF aW k with
  |none=>rfl
  |some x=>rw[q] at a;exact(a J).elim
theorem S7(aW:af<|κ×V)(k:κ)(v:V):(i8 aW k v).length<=aW.length+1:=by
 unfold i8
 split
 ·rw[ie];lia
 ·simp only[iT,yj,List.length_nil];omega
theorem putK_new{k:κ}(v:V)(h:fF aW k=ah):i8 aW k v=aW++[(k,v)]:=by
 unfold i8;rw[Fq,h];exact ay dc
theorem lG.L1(r:lG o u):o.isSome=u.isSome:=by
 cases o with
 |none=>cases u with
  |none=>rfl
  |some _=>exact(show e_ from r).elim
 |some _=>cases u with
  |none=>exact(show e_ from r).elim
  |some _=>rfl
theorem KV.val{vs:af (κ×aH)}(r:KV aW vs)(k:κ):lG (fF aW k)<|Fs vs k:=by
 induction r with
 |nil=>exact C_
 | @cons p q ps qs h t ih=>
  obtain⟨h1,h2⟩:=h;by_cases e:p.1=k
  ·have e':=h1.symm.trans e
   have b:Fs (q::qs) k=L q.2:=by simp[Fs,List.find?_cons,e']
   rw[rF e,b];exact h2
  ·have e':¬q.1=k:=λz=>e<|h1.trans z
   have b:Fs (q::qs) k=Fs qs k:=by simp[Fs,List.find?_cons,e']
   rw[rE e,b];exact ih
theorem KV.any{vs:af (κ×aH)}(r:KV aW vs)(k:κ):(aW.any λkv=>decide (kv.1=k))=vs.any λkv=>decide (kv.1=k):=by
 induction r with
 |nil=>rfl
 |cons h t ih=>simp[yh,yh,ih,h.1]
theorem KV.Nk{vs:af (κ×aH)}(r:KV aW vs)(k:κ){y:V}{u:aH}(ry:RelV y u):KV (aW.map λkv=>if kv.1=k then(kv.1,y) else kv) (vs.map λkv=>if kv.1=k then(kv.1,u) else kv):=by
 induction r with
 |nil=>exact .nil
 | @cons p q ps qs h t ih=>
  simp[kK,kK];refine .cons ?_ ih;obtain⟨h1,h2⟩:=h;by_cases e:p.1=k
  ·rw[aK e,aK<|h1.symm.trans e];exact⟨h1,ry⟩
  ·rw[ay e,ay λz=>e<|h1.trans z];exact⟨h1,h2⟩
theorem KV.put{vs:af (κ×aH)}(r:KV aW vs)(k:κ){y:V}{u:aH}(ry:RelV y u):KV (i8 aW k y)<|stored vs k u:=by
 unfold i8 stored;rw[r.any k];by_cases e:(vs.any λkv=>decide (kv.1=k))=ao
 ·rw[aK e,aK e];exact r.Nk k ry
 ·rw[ay e,ay e];exact Yz r ⟨J,ry⟩
theorem KV.length{vs:af (κ×aH)}(r:KV aW vs):aW.length=vs.length:=P6 r
end
theorem Bo(r:RelV (kV k) u):(nU P w).is k u=ao:=by
 cases k with
 |inl i=>obtain⟨t,e⟩:=(show∃t,u=KG i t from r);subst e;exact mixKind_int P w i t
 |inr x=>obtain⟨t,e⟩:=(show∃t,u=KH x t from r);subst e;exact mixKind_str P w x t
theorem SY:∀{ks:af hU}{us:af aH},cJ (ks.map kV) us->ItemsAre (nU P w) ks us
 |[],_,r=>by rw[List.map_nil] at r;cases r;exact .nil
 |k::ks,_,r=>by
  cases r with
  |cons h t=>exact .cons (Bo h)<|SY t
abbrev KT(H:Hp):af (af hU×V)->af (af hU×ak×aH)->Prop:=Paired λp q=>p.1=q.1/\H q.2.1=L (.tup<|p.1.map kV)/\RelV p.2 q.2.2
theorem KT.val(r:KT H aW xs)(k:af hU):lG (fF aW k) ((yI xs k).map (·.2)):=by
 induction r with
 |nil=>exact C_
 | @cons p q ps qs h t ih=>
  obtain⟨h1,_,h2⟩:=h;by_cases e:p.1=k
  ·have e':=h1.symm.trans e
   have b:yI (q::qs) k=L q.2:=by simp[yI,List.find?_cons,e']
   rw[rF e,b];exact h2
  ·have e':¬q.1=k:=λz=>e<|h1.trans z
   have b:yI (q::qs) k=yI qs k:=by simp[yI,List.find?_cons,e']
   rw[rE e,b];exact ih
theorem KT.Nk(r:KT H aW xs)(k:af hU)(ry:RelV y u):KT H (aW.map λkv=>if kv.1=k then(kv.1,y) else kv) (xs.map<|putAt k u):=by
 induction r with
 |nil=>exact .nil
 | @cons p q ps qs h t ih=>
  simp[kK,kK];refine .cons ?_ ih;obtain⟨h1,h2,h3⟩:=h;unfold putAt;by_cases e:p.1=k
  ·rw[aK e,aK<|h1.symm.trans e];exact⟨h1,h2,ry⟩
  ·rw[ay e,ay λz=>e<|h1.trans z];exact⟨h1,h2,h3⟩
theorem KT.put(r:KT H aW xs)(k:af hU)(hb:H b=L (.tup<|k.map kV))(ry:RelV y u):KT H (i8 aW k y)<|storedH xs k b u:=by
 have e:(aW.any λkv=>decide (kv.1=k))=(yI xs k).isSome:=by
  rw[Fq,(r.val k).L1,Yx]
 unfold i8 storedH;rw[e];by_cases q:(yI xs k).isSome=ao
 ·rw[aK q,aK q];exact r.Nk k ry
 ·rw[ay q,ay q];exact Yz r ⟨J,hb,ry⟩
theorem KT.keeps(r:KT H aW xs)(ht:∀b ys,H b=L (.tup ys)->H' b=L (.tup ys)):KT H' aW xs:=Paired.Mh r λ_ _ z=>⟨z.1,ht _ _ z.2.1,z.2.2⟩
section
variable{P:cO}{w:World}{H:Hp}{h:b9}{a:ak}
theorem U_(ok:eK P w H h)(e:Rd H a u):gU P w H h a u:=e.ok ok
theorem GB(ok:eK P w H h)(e:Rd H a<|.dK aW):aW.length<=bI/\(a==xV)=aM/\ ∃vs,KV aW vs/\h.DictOf (nU P w) a vs:=show gU P w H h a _ from U_ ok e
theorem dk_of(ok:eK P w H h)(e:H a=L (.dK aW)):aW.length<=bI/\(a==xV)=aM/\ ∃vs,KV aW vs/\h.DictOf (nU P w) a vs:=GB ok<|.inl e
theorem Hq(ok:eK P w H h)(e:H a=L (.tup<|ks.map kV)):(JD<|nU P w).is h ks a:=by
 obtain⟨_,aZ,r,o,h1,h2,n,h3⟩:=(show gU P w H h a (.tup<|ks.map kV) from ok a _ e);exact⟨o,aZ.toArray,n,h1,h2,h3,by simpa using SY r⟩
theorem GC(ok:eK P w H h)(e:Rd H a<|.dT aW):aW.length<=bI/\(a==xV)=aM/\ ∃xs,KT H aW xs/\h.DictOfH (JD<|nU P w) a xs:=by
 obtain⟨z,y,xs,r,o,es,ep,h1,h2,h3,h4,h5⟩:=(show gU P w H h a _ from U_ ok e);refine⟨z,y,xs,r,o,es,ep,h1,h2,h3,h4,λx hx=>?_,h5⟩;have all:∀{l:af _}{m:af _},KT H l m-> ∀x∈m,(JD<|nU P w).is h x.1 x.2.1:=by
  intro l m q
  induction q with
  |nil=>intro x hx;exact nomatch hx
  | @cons p q ps qs hq t ih=>
   intro x hx;rcases List.mem_cons.mp hx with e|hx
   ·subst e
    exact Hq ok (by rw[<-hq.1];exact hq.2.1)
   ·exact ih x hx
 exact all r x hx
theorem dt_of(ok:eK P w H h)(e:H a=L (.dT aW)):aW.length<=bI/\(a==xV)=aM/\ ∃xs,KT H aW xs/\h.DictOfH (JD<|nU P w) a xs:=GC ok<|.inl e
end
def o9(H:Hp)(a:ak)(y:V)(r:au V):Prop:=(∃aW k,Rd H a (.dK aW)/\y=kV k/\r=fF aW k)\/ ∃aW k b,Rd H a (.dT aW)/\y= .ref b/\H b=L (.tup<|k.map kV)/\r=fF aW k
def Ae(H:Hp)(a:ak)(y v:V)(H':Hp):Prop:=(∃aW k,H a=L (.dK aW)/\y=kV k/\aW.length<bI/\H'=aC H a (.dK<|i8 aW k v))\/
 ∃aW k b,H a=L (.dT aW)/\y= .ref b/\H b=L (.tup<|k.map kV)/\aW.length<bI/\H'=aC H a (.dT<|i8 aW k v)
theorem o9.k{k:hU}(e:H a=L (.dK aW)):o9 H a (kV k)<|fF aW k:=.inl ⟨aW,k,.inl e,J,J⟩
theorem Ae.k{k:hU}(e:H a=L (.dK aW))(hl:aW.length<bI):Ae H a (kV k) v<|aC H a (.dK<|i8 aW k v):=.inl ⟨aW,k,e,J,hl,J⟩
section
variable{X:Cx}{ai:af (ak×eR)}{σ:St}{H:Hp}{s:c_}{a:ak}{y v:V}{u r:aH}{o:au V}{A:oj}{E:aH->c_->Prop}
theorem Inv.KN(I:Inv X ai σ H s):xV<s.heap.objs.size:=by
 have h:=(I.mod.uH.keeps I.bk).lt;exact Yo dc h
theorem Z2(hu:A.units+1<oA)(I:Inv X ai σ H s)(g:o9 H a y<|L v)(ry:RelV y u)(h:∀w' s',Inv X ai σ H s'->RelV v w'->Q w' s'):b_ (bX X.prog X.w) A (yU (.ref a) u) Q E s:=by
 rcases g with⟨aW,k,e,ey,l⟩|⟨aW,k,b,e,ey,eb,l⟩
 ·subst ey
  obtain⟨z,hd,vs,mL,dd⟩:=GB I.bL e;obtain⟨w',hw,vF⟩:=lG.NZ (by rw[l];exact mL.val k);exact wpAny_getItem_of (Bo ry) dd.mapOf hw<|h w' _ (I.mf _) vF
 ·subst ey
  cases(show u=kg b from ry)
  obtain⟨z,hd,xs,mL,dd⟩:=GC I.bL e;obtain⟨w',hw,vF⟩:=lG.NZ (by rw[l];exact mL.val k);obtain⟨p,hp,lO⟩:=Option.map_eq_some_iff.mp hw;refine wpAny_getItem_heap (W5 hu) (Hq I.bL eb) dd hp ?_;simp[lO];exact h w' _ (I.mf _) vF
theorem Z3(hu:A.units+1<oA)(I:Inv X ai σ H s)(g:o9 H a y o)(ry:RelV y u)(h:∀s',Inv X ai σ H s'->Q (.bool<|!o.isSome) s'):b_ (bX X.prog X.w) A (nI .NotIn u<|.ref a) Q E s:=by
 rcases g with⟨aW,k,e,ey,l⟩|⟨aW,k,b,e,ey,eb,l⟩
 ·subst ey
  obtain⟨z,hd,vs,mL,dd⟩:=GB I.bL e;refine wpAny_notIn_of (Bo ry) hd dd.mapOf ?_;rw[<-(mL.val k).L1,<-l];exact h _<|I.mf _
 ·subst ey
  cases(show u=kg b from ry)
  obtain⟨z,hd,xs,mL,dd⟩:=GC I.bL e;refine wpAny_notIn_heap (W5 hu) (Hq I.bL eb) hd dd ?_;have q:=(mL.val k).L1;rw[Yx] at q;simp only[<-q,<-l];exact h _<|I.mf _
theorem Rg(I:Inv X ai σ H s)(mu:Cz<|H a)(hs:FC a s.heap h')(he:∃q,h'.get? a=L q)(new:gU X.prog X.w (aC H a ob) h' a ob):Inv X ai σ (aC H a ob) {s with heap:=h',toks:=t'}:=I.vV mu (.inl J) (λb q hb z=>(hs.2 b hb).trans z) he new
theorem dk_new(z:aW.length<=bI)(hd:(a==xV)=aM)(mL:KV aW vs)(dd:h'.DictOf (nU P w) a vs):gU P w H' h' a<|.dK aW:=⟨z,hd,vs,mL,dd⟩
theorem Z4(hu:A.units+1<oA)(I:Inv X ai σ H s)(g:Ae H a y v H')(ry:RelV y u)(rv:RelV v r)(h:∀s',Inv X ai σ H' s'->Q () s'):b_ (bX X.prog X.w) A (setItem (.ref a) u r) Q E s:=by
 rcases g with⟨aW,k,e,ey,l,eH⟩|⟨aW,k,b,e,ey,eb,l,eH⟩
 ·subst ey eH
  obtain⟨z,hd,vs,mL,dd⟩:=dk_of I.bL e;have hz:vs.length<=bI:=by rw[<-mL.length];exact z
  have hl:(i8 aW k v).length<=bI:=by have:=S7 aW k v;lia
  refine wpAny_setItem_pairs (Bo ry) dd λh' Gv hs=>h _ ?_;have he:∃q,h'.get? a=L q:=let⟨q,_,_,hq,_⟩:=Gv;⟨q,hq⟩;exact Rg I (by rw[e];exact C_) hs he<|dk_new hl hd (mL.put k rv) Gv
 ·subst ey eH
  cases(show u=kg b from ry)
  obtain⟨z,hd,xs,mL,dd⟩:=dt_of I.bL e;have hz:xs.length<=bI:=by rw[<-P6 mL];exact z
  have hl:(i8 aW k v).length<=bI:=by have:=S7 aW k v;lia
  refine wpAny_setItem_heap (W5 hu) (Hq I.bL eb) dd λh' Gv hs=>h _ ?_;obtain⟨q,es,ep,hq,h2,h3,h4,_,h5⟩:=Gv;refine Rg I (by rw[e];exact C_) hs ⟨q,hq⟩ ⟨hl,hd,_,(mL.put k eb rv).keeps λc ys ec=>?_,q,es,ep,hq,h2,h3,h4,h5⟩;rw[bJ<|eJ ec e (λz=>nomatch z)];exact ec
end
def Kj(i:Expr):Prop:=∀ov iv,OJ i aM ov iv=operate [ov,iv] (yU ov iv)
theorem WI{T id:yG}
 (hl:typeLookup (.type T) "__getitem__"=pure (L<|.builtin id)) (hs:Kj qC)
 (h:b_ (bX prog w) A (dg jO env) (λo eQ=>b_ (bX prog w) A (dg qC env) (λi j6=>j6.TypeIs o T/\b_ (bX prog w) A (yU o i) Q E j6) E eQ) E s):
 b_ (bX prog w) A (dg (.Subscript jO qC pos) env) Q E s:=by
 refine Qv (lr h (λo eQ Hg=>lr Hg (λi j6 DV=>?_) λ_ _ x=>x) λ_ _ x=>x);obtain⟨hT,DV⟩:=DV;refine dj ?_;refine dj<|wpAny_specialOf hT hl ?_;have dr:b_ (bX prog w) A (OJ qC aM o i) (λr xW=>b_ (bX prog w) A (letTemporaryGo jO o r>>=λ_=>pure r) Q E xW) E j6:=by
  rw[hs o i];exact wpAny_operating<|lr DV (λr xW Hh=>dj (wpAny_letTemporaryGo<|gg Hh)) λ_ _ x=>x
 first
  |exact gg<|dj dr
  |exact dj (gg<|dj dr)
  |exact dj dr
theorem dict_typeIs{σ:St}(I:Inv X ai σ H s)(g:o9 H a y o):s.TypeIs (.ref a) "dict":=by
 rcases g with⟨aW,k,e,_,_⟩|⟨aW,k,b,e,_,_,_⟩
 ·obtain⟨_,_,vs,_,dd⟩:=GB I.bL e
  exact dd.typeIs
 ·obtain⟨_,_,xs,_,dd⟩:=GC I.bL e
  exact dd.typeIs
def Fl(td ty:TE):TE:=λσ H Q=>td σ H λx U=>ty σ U λy H2=>∃a v,x= .ref a/\o9 H2 a y (L v)/\Q v H2
def tDNotIn(ty td:TE):TE:=λσ H Q=>ty σ H λy U=>td σ U λx H2=>∃a o,x= .ref a/\o9 H2 a y o/\Q (.bl<|!o.isSome) H2
def sDPut(td ty tv:TE):TS:=λD σ H=>tv σ H λv U=>td σ U λx H2=>ty σ H2 λy H3=>∃a H4,x= .ref a/\Ae H3 a y v H4/\D.nx σ H4
section
variable{X:Cx}{o i e jO:Expr}{pos oO z9:gW}{td ty tv:TE}
theorem oK(hu:X.A.units+1<oA)(ho:PE X o td)(hi:PE X i ty)(hs:Kj i):PE X (.Subscript o i pos)<|Fl td ty:=by
 intro ai s σ H Q I h;refine WI PySem.F.slot_dict_getitem.lookup hs (cn (ho ai s σ H _ I h) λu s1⟨x,U,I1,rx,q1⟩=>cn (hi ai s1 σ U _ I1 q1) λiv s2⟨y,H2,I2,ry,a,v,ex,g,q2⟩=>?_);subst ex;obtain rfl:u=kg a:=rx;exact⟨dict_typeIs I2 g,Z2 hu I2 g ry λw' s3 I3 vF=>⟨v,H2,I3,vF,q2⟩⟩
theorem pc_dnotin(hu:X.A.units+1<oA)(hi:PE X i ty)(ho:PE X o td):PC X .NotIn i o<|tDNotIn ty td:=by
 intro ai s σ H Q I h;refine cn (hi ai s σ H _ I h) λiv s1⟨y,U,I1,ry,q1⟩=>cn (ho ai s1 σ U _ I1 q1) λu s2⟨x,H2,I2,rx,a,ov,ex,g,q2⟩=>?_;subst ex;obtain rfl:u=kg a:=rx;exact Z3 hu I2 g ry λs3 I3=>⟨.bl _,H2,I3,J,q2⟩
theorem U0(hu:X.A.units+1<oA)(ho:PE X o td)(hi:PE X i ty)(hv:PE X jO tv)(hs:z7 jO (L<|.Subscript o i oO) pos.line X.env=pure aM):PS X (.Assign [.Subscript o i oO] jO pos)<|sDPut td ty tv:=by
 intro ai s σ H D I h;refine wpAny_Assign_Subscript (cn (hv ai s σ H _ I h) λr s1⟨v,U,I1,rv,q1⟩=>cn (ho ai s1 σ U _ I1 q1) λu s2⟨x,H2,I2,rx,q2⟩=>cn (hi ai s2 σ H2 _ I2 q2) λiv s3⟨y,H3,I3,ry,a,H4,ex,g,q3⟩=>?_) hs;subst ex;obtain rfl:u=kg a:=rx;exact Z4 hu I3 g ry rv λs4 I4=>⟨σ,H4,I4,q3⟩
end
theorem dk_empty(h:b9)(hb:xV<h.objs.size):gU P w H (h.push {cls:=.type "dict",data:=.dict #[]}) h.objs.size<|.dK []:=⟨eM _,beq_eq_false_iff_ne.mpr (dB<|j_ hb),[],.nil,Heap.DictOf.new h⟩
def tDNewK:TE:=λ_ H Q=>∀p,H p=ah->Q (.ref p) (aC H p<|.dK [])
section
variable{X:Cx}{pos:gW}
theorem UQ:PE X (.Dict [] [] pos) tDNewK:=λai s σ H Q I h=>
 wpAny_Dict_empty ⟨.ref s.heap.objs.size,_,I.kR (λ_ _ q=>iS _ q) (dQ _)<|dk_empty s.heap I.KN,J,h _ (I.bL.fresh<|dQ _)⟩
end
end L2
namespace L2
open PySem PySem.Spec PyProof.Rows
section
variable{X:Cx}{ai:af (ak×eR)}{σ:St}{H:Hp}{s:c_}{h':b9}
theorem Inv.turnedL{ch:af ak}(I:Inv X ai σ H s)(k:∀b o,b∉ch->s.heap.get? b=L o->h'.get? b=L o)(hf:∀b∈ch,lA X ai H b):Inv X ai σ H {s with heap:=h',toks:=t'}:=by
 have xn:∀b u,H b=L u->b∉ch:=λb u e z=>by
  have q:=(hf b z).1;rw[q] at e;cases e
 refine I.step (λb hb=>⟨(hf b hb).2.2.2.1,(hf b hb).2.1,(hf b hb).2.2.2.2.1,(hf b hb).2.2.2.2.2⟩) (λb o _ _ hc e _=>k b o hc e) (λb o _ _ hc e _=>⟨o.slots,k b o hc e⟩)
  (λ_ _ _ _ n=>n) (λb o hc e=>⟨o,k b o hc e⟩) (λ_ _ e=>e) (λ_ _ _ e=>e) (λb ps e=>⟨#[],by rw[e];simp⟩) (λm hm=>?_) (λb u e=>?_) I.eG
 ·obtain⟨o,es,ep,ho,r⟩:=hm
  exact⟨o,es,ep,k _ o (λz=>(hf _ z).2.1 J) ho,r⟩
 ·refine(I.bL b u e).vO (λc v hc q=>k c v ?_ q) (λ_ q=>q) λ_ _ q=>q
  rcases hc with z|z
  ·rw[z];exact xn b u e
  ·exact xn c _ z
theorem Inv.W6{ch:af ak}{T:ak}(I:Inv X ai σ H s)(k:∀b o,b∉ch->s.heap.get? b=L o->h'.get? b=L o)(hf:∀b∈ch,lA X ai H b)(hT:s.heap.objs.size<=T)
 (new:gU X.prog X.w (aC H T ob) h' T ob):Inv X ai σ (aC H T ob) {s with heap:=h',toks:=t'}:=by
 have hn:=I.bL.fresh hT;have xn:∀b u,H b=L u->b∉ch:=λb u e z=>by
  have q:=(hf b z).1;rw[q] at e;cases e
 refine I.step (λb hb=>⟨(hf b hb).2.2.2.1,(hf b hb).2.1,(hf b hb).2.2.2.2.1,(hf b hb).2.2.2.2.2⟩) (λb o _ _ hc e _=>k b o hc e) (λb o _ _ hc e _=>⟨o.slots,k b o hc e⟩)
  (λb o _ e n=>?_) (λb o hc e=>⟨o,k b o hc e⟩) (λb xs e=>?_) (λb o u e=>?_) (λb ps e=>⟨#[],?_⟩) (λm hm=>?_) (λb u e=>?_) I.eG
 ·rw[bJ (j_<|gy (ej e) hT)];exact n
 ·rw[bJ<|dy e hn];exact e
 ·rw[bJ<|dy e hn];exact e
 ·rw[bJ<|dy e hn,e];simp
 ·obtain⟨o,es,ep,ho,r⟩:=hm
  exact⟨o,es,ep,k _ o (λz=>(hf _ z).2.1 J) ho,r⟩
 ·by_cases hb:b=T
  ·subst hb
   rw[bw] at e
   cases e
   exact new
  ·rw[bJ hb] at e
   refine(I.bL b u e).vO (λc v hc q=>k c v ?_ q) (λc q=>by rw[bJ<|dy q hn];exact q) λc xs q=>by rw[bJ<|dy q hn];exact q
   rcases hc with z|z
   ·rw[z];exact xn b u e
   ·exact xn c _ z
end
def Cm(K:aq)(a:ak):It:=⟨λi H=>∃(xs:af V)(x:V),SqL K H a xs/\xs[i]? =L x,λi H v H'=>∃T x,v= .ref T/\H T=ah/\H'=aC H T (.tup [.int i,x])/\ ∀xs,SqL K H a xs->xs[i]? =L x,λi H=>∃xs,SqL K H a xs/\xs.length<=i⟩
theorem turn_enum{K:aq}(a e it:ak):sf P w K (.Tuple GF kk z9) (Cm K a) [e,it] e (λi h=>(∃kY,IsEnum h e it (i:ag) kY)/\h.IsListIter it a i/\e≠it) where
 mem:=by simp
 obj:=λi h st b hb=>by
  obtain⟨⟨kY,he⟩,⟨o,ho,hc,hd⟩,_⟩:=st;have e':=by simpa using hb
  rcases e' with z|z
  ·rw[z];exact⟨_,he,λv q=>nomatch q⟩
  ·rw[z];exact⟨o,ho,λv q=>by rw[hd] at q;cases q⟩
 keep:=λi h h' st k=>let⟨⟨kY,he⟩,hi,gZ⟩:=st;⟨⟨kY,k e (by simp) _ he⟩,hi.at λo q=>k it (by simp) o q,gZ⟩
 item:=by
  intro X hP hw hK hc i ai s σ H E I hf st hg;subst hP hw hK;obtain⟨⟨kY,he⟩,Bf,gZ⟩:=st;obtain⟨xs,x,hq,hx⟩:=hg;obtain⟨aZ,rv,p,hz⟩:=I.list hq;obtain⟨u,hu,ru⟩:=rv.get hx;have Sr:=ej he;have hil:it<s.heap.objs.size:=by obtain⟨_,q,_⟩:=Bf;exact ej q
  refine wpAny_pyNext_enum_item he Bf p.isList (by simpa using hu) gZ λh' ho hit' hT nR hk=>?_;refine⟨_,J,wpAny_letOwnedTupleGo_enum ho λA9 he' sb=>?_⟩;have wV:=(sb.2 _<|uh Sr).trans hT;have new:gU X.prog X.w (aC H s.heap.objs.size<|.tup [.int i,x]) A9 s.heap.objs.size<|.tup [.int i,x]:=⟨by show 2<=bI;decide,_,.cons ⟨_,J⟩<|.cons ru .nil,_,wV,J,_,J⟩
  have I1:Inv X ai σ (aC H s.heap.objs.size<|.tup _) {s with heap:=A9,toks:=s.toks+1}:=I.W6 (λb ob hb q=>(sb.2 b λz=>hb<|by simp[z]).trans (hk b ob (λz=>hb<|by simp[z]) (λz=>hb<|by simp[z]) q)) hf (dQ _) new
  refine⟨.ref s.heap.objs.size,_,I1,J,⟨_,x,J,I.bL.fresh<|dQ _,J,λys hy=>by rw[I.Hu hy hq];exact hx⟩,⟨⟨u,?_⟩,hit'.at λo q=>(sb.2 it<|dB gZ).trans q,gZ⟩,λb hb=>?_⟩
  ·have e1:(i+1:ag)=i+1:=by lia
   rw[e1];exact he'
  ·have uL:b<s.heap.objs.size:=by
    have e':=by simpa using hb
    rcases e' with z|z
    ·rw[z];exact Sr
    ·rw[z];exact hil
   rw[bJ<|j_ uL];exact(hf b hb).1
 done:=by
  intro X hP hw hK hc i ai s σ H E I hf st hg;subst hP hw hK;obtain⟨⟨kY,he⟩,Bf,gZ⟩:=st;obtain⟨xs,hq,hx⟩:=hg;obtain⟨aZ,rv,p,hz⟩:=I.list hq;obtain⟨f0,f1,f2,f3,f4,f5⟩:=hf it<|by simp
  have hl:=rv.length;exact wpAny_pyNext_enum_end (I.ok.hd hc) he Bf p.isList (by simp;omega) λh' eb=>⟨J,I.turned (λb o hb q=>eb b o hb q) f0 f1 f3 f4 f5⟩
 vK:=λA i s Q E st h=>let⟨⟨_,he⟩,_⟩:=st;wpAny_pyIter_enum he h
def iEnum(K:aq)(ta:TA):TI:=λσ H R=>ta σ H λvs U=>∃a xs,vs=[.ref a]/\SqL K U a xs/\R (Cm K a) U
theorem M5(hg:Gl X "enumerate")(hm:X.mg "enumerate"=ah)(ha:PA X [e] ta)(hs:dv [e] X.env=[(aM,dg e X.env)]:=by rfl):PI X (.Tuple GF kk z9) (.Call (.Name "enumerate" p) [e] [] pos)<|iEnum X.K ta:=by
 intro ai s σ H R I h;refine Call_ (D4 I hg hm boot_enumerate<|Kq (cn (ha pos ai s σ H _ I h) λus s1⟨vs,U,I1,r1,q1⟩=>?_) hs J);obtain⟨a,xs,ex,hq,q⟩:=q1;subst ex
 cases r1 with
 |cons r rr=>
  cases rr
  cases r
  obtain⟨aZ,rv,p',hz⟩:=I1.list hq;refine call_enumerate_list p'.isList λh' he Bf nR hk=>wpAny_pyIter_enum he ?_;have I2:=I1.kept (t':=s1.toks) hk;refine⟨s1.heap.objs.size+1,_,_,_,U,J,I2,turn_enum a _ s1.heap.objs.size,⟨⟨.none,he⟩,Bf,Nat.succ_ne_self _⟩,λb hb=>?_,q⟩;have e':=by simpa using hb
  have zc:s1.heap.objs.size<=b:=by
   rcases e' with z|z
   ·rw[z];exact FN _ _
   ·rw[z];exact dQ _
  exact I1.yS zc<|I1.bL.fresh zc
theorem ZO:Dm "zip"=L (.type "zip"):=by decide+kernel
def Co(K:aq)(a b:ak):It:=⟨λi H=>∃(xs ys:af V)(x y:V),SqL K H a xs/\SqL K H b ys/\xs[i]? =L x/\ys[i]? =L y,λi H v H'=>∃T x y,v= .ref T/\H T=ah/\H'=aC H T (.tup [x,y])/\(∀xs,SqL K H a xs->xs[i]? =L x)/\ ∀ys,SqL K H b ys->ys[i]? =L y,
                           λi H=>∃xs ys,SqL K H a xs/\SqL K H b ys/\(xs.length<=i\/ys.length<=i)⟩
theorem turn_zip{K:aq}{a b z TI TO i1 i2:ak}(D:ZipApart z TI TO i1 i2 a b):sf P w K (.Tuple GF kk z9) (Co K a b) [z,TI,TO,i1,i2] z (λi h=>IsZip h z TI TO .none/\IsPair h TI (.ref i1) (.ref i2)/\(∃x y,IsPair h TO x y)/\h.IsListIter i1 a i/\h.IsListIter i2 b i) where
 mem:=by simp
 obj:=λi h st c hc=>by
  obtain⟨hz,qM,⟨x,y,sH⟩,⟨o1,e1,_,d1⟩,o2,e2,_,d2⟩:=st;have e':=by simpa using hc
  rcases e' with q|q|q|q|q
  ·rw[q];exact⟨_,hz,λv q=>nomatch q⟩
  ·rw[q];exact⟨_,qM,λv q=>nomatch q⟩
  ·rw[q];exact⟨_,sH,λv q=>nomatch q⟩
  ·rw[q];exact⟨o1,e1,λv q=>by rw[d1] at q;cases q⟩
  ·rw[q];exact⟨o2,e2,λv q=>by rw[d2] at q;cases q⟩
 keep:=λi h h' st k=>by
  obtain⟨hz,qM,⟨x,y,sH⟩,h1,h2⟩:=st;exact⟨k z (by simp) _ hz,k TI (by simp) _ qM,⟨x,y,k TO (by simp) _ sH⟩,h1.at λo q=>k i1 (by simp) o q,h2.at λo q=>k i2 (by simp) o q⟩
 item:=by
  intro X hP hw hK hc i ai s σ H E I hf st hg;subst hP hw hK;obtain⟨hz,qM,⟨x0,y0,sH⟩,h1,h2⟩:=st;obtain⟨xs,ys,x,y,hqx,hqy,hx,hy⟩:=hg;obtain⟨aZ,rv,p,_⟩:=I.list hqx;obtain⟨mF,rv2,p2,_⟩:=I.list hqy;obtain⟨u,hu,ru⟩:=rv.get hx;obtain⟨u2,hu2,ru2⟩:=rv2.get hy;have SM:=ej hz;refine wpAny_pyNext_zip_item D hz qM sH h1 h2 p.isList p2.isList (by simpa using hu) (by simpa using hu2) λh' z' YX h1' Lp hT nR hk=>?_;refine⟨_,J,wpAny_letOwnedTupleGo_zip z' λA9 z'' sb=>?_⟩;have wV:=(sb.2 _<|uh SM).trans hT;have new:gU X.prog X.w (aC H s.heap.objs.size<|.tup [x,y]) A9 s.heap.objs.size<|.tup [x,y]:=⟨by show 2<=bI;decide,_,.cons ru<|.cons ru2 .nil,_,wV,J,_,J⟩
  have I1:=I.W6 (t':=s.toks) (λc o hb q=>(sb.2 c λq'=>hb<|by simp[q']).trans (hk c o (λq'=>hb<|by simp[q']) (λq'=>hb<|by simp[q']) (λq'=>hb<|by simp[q']) (λq'=>hb<|by simp[q']) q)) hf (dQ _) new
  refine⟨.ref s.heap.objs.size,_,I1,J,⟨_,x,y,J,I.bL.fresh<|dQ _,J,λl hl=>by rw[I.Hu hl hqx];exact hx,λl hl=>by rw[I.Hu hl hqy];exact hy⟩,⟨z'',?_,⟨u,u2,?_⟩,?_,?_⟩,λc G0=>?_⟩
  ·exact(sb.2 _ D.TIz).trans<|hk _ _ D.TIz D.TITO D.TIi1 D.TIi2 qM
  ·exact(sb.2 _ D.TOz).trans YX
  ·exact h1'.at λo q=>(sb.2 _ D.i1z).trans q
  ·exact Lp.at λo q=>(sb.2 _ D.i2z).trans q
  ·have d9:c<s.heap.objs.size:=by
    have e':=by simpa using G0
    rcases e' with q|q|q|q|q
    ·rw[q];exact SM
    ·rw[q];exact ej qM
    ·rw[q];exact ej sH
    ·rw[q];obtain⟨_,e1,_⟩:=h1;exact ej e1
    ·rw[q];obtain⟨_,e2,_⟩:=h2;exact ej e2
   rw[bJ<|j_ d9];exact(hf c G0).1
 done:=by
  intro X hP hw hK hc i ai s σ H E I hf st hg;subst hP hw hK;obtain⟨hz,qM,⟨x0,y0,sH⟩,h1,h2⟩:=st;obtain⟨xs,ys,hqx,hqy,hend⟩:=hg;obtain⟨aZ,rv,p,_⟩:=I.list hqx;obtain⟨mF,rv2,p2,_⟩:=I.list hqy;have l1:=rv.length;have l2:=rv2.length;have he:aZ.toArray[i]? =ah\/mF.toArray[i]? =ah:=by
   rcases hend with q|q
   ·exact .inl (by simp;lia)
   ·exact .inr (by simp;lia)
  exact wpAny_pyNext_zip_end (I.ok.hd hc) D hz qM sH h1 h2 p.isList p2.isList he λh' hk=>⟨J,I.turnedL (λc o hb q=>
   hk c o (λq'=>hb<|by simp[q']) (λq'=>hb<|by simp[q']) (λq'=>hb<|by simp[q']) (λq'=>hb<|by simp[q']) q) hf⟩
 vK:=λA i s Q E st h=>wpAny_pyIter_zip st.1 h
def SN(K:aq)(ta:TA):TI:=λσ H R=>ta σ H λvs U=>∃a b xs ys,vs=[.ref a,.ref b]/\SqL K U a xs/\SqL K U b ys/\R (Co K a b) U
theorem M8{p pos z9:gW}{GF:af Expr}{kk:ag}(hg:Gl X "zip")(hm:X.mg "zip"=ah)(ha:PA X [e,e2] ta)
 (hs:dv [e,e2] X.env=(aM,dg e X.env)::dv [e2] X.env:=by rfl) (fw:(jC pos<|dv [e2] X.env).any (·.1)=aM:=by rfl):
 PI X (.Tuple GF kk z9) (.Call (.Name "zip" p) [e,e2] [] pos)<|SN X.K ta:=by
 intro ai s σ H R I h;refine Call_ (D4 I hg hm ZO<|Kq (cn (ha pos ai s σ H _ I h) λus s1⟨vs,U,I1,r1,q1⟩=>?_) hs fw);obtain⟨a,b,xs,ys,ex,hqx,hqy,q⟩:=q1;subst ex
 cases r1 with
 |cons r rr=>
  cases rr with
  |cons r' rr=>
   cases rr
   cases r
   cases r'
   obtain⟨aZ,rv,p1,_⟩:=I1.list hqx;obtain⟨mF,rv2,p2,_⟩:=I1.list hqy;have la:=p1.lt;have lb:=p2.lt;refine call_zip_2 p1.isList p2.isList λh' hz qM sH h1 h2 nR hk=>wpAny_pyIter_zip hz ?_;have I2:=I1.kept (t':=s1.toks) hk;refine⟨s1.heap.objs.size+4,_,_,_,U,J,I2,turn_zip<|PySem.W.ktu_apart s1.heap.objs.size a b la lb,⟨hz,qM,⟨_,_,sH⟩,h1,h2⟩,λc G0=>?_,q⟩;have e':=by simpa using G0
   have zc:s1.heap.objs.size<=c:=by
    rcases e' with z|z|z|z|z
    ·rw[z];exact FN _ _
    ·rw[z];exact FN _ _
    ·rw[z];exact FN _ _
    ·rw[z];exact dQ _
    ·rw[z];exact FN _ _
   exact I1.yS zc<|I1.bL.fresh zc
end L2
section
namespace TL
open PySem PySem.Builtin PySem.Builtin.Str PySem.StrLaws
end TL
end
namespace L2
open PySem PySem.Spec PyProof.Rows
end L2
namespace L2
open PySem PySem.Spec PyProof.Rows
def sQ(s:dq)(j:ag):dq:=match s with
 | .ClassDef _ _ _ body _ _ _ _ _ _ _=>body.getD j<|.Pass ⟨0,0,0,0⟩
 |_=>.Pass ⟨0,0,0,0⟩
def lJ(s:dq):Arguments:=match s with
 | .FunctionDef _ a _ _ _ _ _ _ _ _=>a
 |_=>{posonlyargs:=[],args:=[],vararg:=ah,kwonlyargs:=[],kw_defaults:=[],kwarg:=ah,defaults:=[]}
def iI(s:dq):af dq:=match s with
 | .FunctionDef _ _ b _ _ _ _ _ _ _=>b
 |_=>[]
def ba(s:dq):mx:=match s with
 | .FunctionDef _ _ _ _ _ _ sc _ _ _=>sc
 |_=>{kind:=.function,names:=[],isGenerator:=aM,isCoroutine:=aM}
abbrev ib:o8:=λ_ _ _ _ _ _=>e_
abbrev E0:XK:=λ_ _ _=>e_
theorem xF:mq ib X E0:=λ_ _ _ _ _ _ _ h=>h.elim
structure bh(K:aq)(x cQ:ax)(st:dq)(f:ak)(fd:c7):Prop where
 ex:∃(oc:aH)(od:au ak)(kV dX pm:aH)(an:au ak)(cj ct:aH)(vi:jv<|au aH),fd=pR x cQ (lJ st) (iI st) (ba st) .none kV dX pm an cj ct/\K.lookup f=L ⟨oc,od,.func fd,vi⟩/\Gs K cj cQ=ao
 kp:jx K (.ref f)=ao
section
variable{P:cO}{w:World}{K:aq}{mg:ax->au aH}{base:b9}
theorem bh.ok{st:dq}(F:bh K x cQ st f fd)(S:bF N ps<|ba st)(bH:∀vs H Q E,sp vs H Q E->vs.length=ps.length)
 (yY:∀cj A bA s H vs Q E,eF k (A.deeper<|jG cQ (ba st) s.heap.objs.size f cj)->sp vs H Q E-> ∃t,gV (jF ib P w K mg base N cQ (ba st) f cj A bA s H E).HG (iI st) t/\t {nx:=λ_ H'=>Q .cu H',rt:=Q} (start N vs) H):aD P w K mg base ib (k+1) f fd ps sp:=by
 obtain⟨oc,od,kV,dX,pm,an,cj,ct,vi,rfl,lk,my⟩:=F.ex;refine RR lk my S bH λA bA s H vs Q E hr iL=>?_;obtain⟨t,h,q⟩:=yY cj A bA s H vs Q E hr iL;exact⟨t,h.HG,q⟩
theorem bh.wK{st:dq}(F:bh K x cQ st f fd)
 (h:∀kV dX pm an cj ct us,us.length=ps.length->uA (pR x cQ (lJ st) (iI st) (ba st) .none kV dX pm an cj ct) ⟨us,[]⟩=pure (ps.zip us)):Binds K fd ps []:=by
 obtain⟨oc,od,kV,dX,pm,an,cj,ct,vi,rfl,lk,my⟩:=F.ex;exact .all<|h kV dX pm an cj ct
theorem Li{st:dq}{kV dX pm cj ct:aH}(l:K.lookup f=L ⟨oc,od,.func<|pR x cQ (lJ st) (iI st) (ba st) .none kV dX pm an cj ct,vi⟩)
 (c:Gs K cj cQ=ao) (k:jx K (.ref f)=ao):bh K x cQ st f<|pR x cQ (lJ st) (iI st) (ba st) .none kV dX pm an cj ct:=⟨⟨oc,od,kV,dX,pm,an,cj,ct,vi,J,l,c⟩,k⟩
end
theorem lP(hr:eF k A):A.units+1<oA:=wq (Nat.add_le_add_left (by decide) _) hr.units
section
variable{X:Cx}
theorem O(i:ag){pos:gW}(hN:X.N[i]? =L x:=by rfl)(hv:De X.env.scope x:=by first|exact CL J|exact FT (CL J)|exact FT<|FT J)(hd:(x=="__debug__")=aM:=by decide)
 (my:(x=="__classdict__")=aM:=by decide):PE X (.Name x pos)<|aw i:=pe_var hN hv hd my
end
theorem pX{A B:Prop}(h:B):if aM=ao then A else B:=by
 exact h
theorem jJ{A B:Prop}(h:A):if ao=ao then A else B:=by
 exact h
theorem d6{c A B:Prop}[Decidable c](h1:c->A)(h2:¬c->B):if c then A else B:=by
 by_cases h:c
 ·rw[aK h]
  exact h1 h
 ·rw[ay h]
  exact h2 h
def az(H H':Hp):Prop:=∀b o,H b=L o->H' b=L o
theorem az.refl(H:Hp):az H H:=λ_ _ h=>h
theorem az.trans(a:az H U)(b:az U H2):az H H2:=λc o h=>b c o<|a c o h
theorem az.free(e:az H H')(h:H' l=ah):H l=ah:=by
 cases q:H l with
 |none=>rfl
 |some o=>
  rw[e l o q] at h
  cases h
theorem az.seq{K:aq}(e:az H H')(h:SqL K H a xs):SqL K H' a xs:=by
 rcases h with(h|⟨o,h⟩)|h
 ·exact .inl (.inl<|e _ _ h)
 ·exact .inl<|.inr ⟨o,e _ _ h⟩
 ·exact .inr h
theorem az.made(nx:H x=ah)(nd:H dx=ah)(k:∀b o,(aC (aC H dx<|.own x) x<|.ins C dx []) b=L o->b≠x->U b=L o):az H U:=λb o e=>
 k b o (by rw[bJ<|dy e nx,bJ<|dy e nd];exact e)<|dy e nx
end L2
namespace L2
open PySem PySem.Spec PyProof.Rows
structure Kp(fs:af ak)(H H':Hp)(h B h':b9):Prop where
 keep:∀b o,h.get? b=L o->H b=ah->b∉fs->B.get? b=L o
 jr:∀b o,h.get? b=L o->H b=ah->b∈fs->(∀vs,o.data≠ .fields vs)-> ∃sl,h'.get? b=L {o with slots:=sl}
 free:∀b o,h.get? b=L o->H b=ah->H' b=ah
 there:∀b o,h.get? b=L o->b∉fs-> ∃o',B.get? b=L o'
 mU:∀b xs,H b=L (.tup xs)->H' b=L (.tup xs)
 lL:∀b o u,H b=L (.iX o u)->H' b=L (.iX o u)
 mQ:∀b ps,H b=L (.vP ps)-> ∃more,H' b=L (.vP<|ps++more)
inductive aQ(P:cO)(w:World)(C:ak)(bA:af j9)(H:Hp)(s:c_)(E:XK)(e:aH)(s':c_):Prop
 |mk:∀(a t:ak)(H':Hp)(B:b9),e= .ref a->s'.os=s.os->tQ s'.gens->JW B bA a (.ref C) (.ref t) s'.heap->eK P w H' B->Kp (fg bA) H H' s.heap B s'.heap->E (.ref C) ah H'->aQ P w C bA H s E e s'
theorem aD.gz{K:aq}(F:aD P w K mg base ib k f fd ps sp):aD P w K mg base CX k f fd ps sp:=⟨F.bH,λA bA s H kh us vs Q E hr he hb hv hs=>yN (F.run A bA s H kh us vs Q E hr he hb hv hs) λr s' q=>by
                                                                                            cases r with
                                                                                            |error e=>exact ic q
                                                                                            |ok fl=>
                                                                                             cases fl with
                                                                                             |ret u=>exact q
                                                                                             |next=>exact q
                                                                                             |brk=>exact q
                                                                                             |cont=>exact q⟩
section
variable{X:Cx}{ai:af (ak×eR)}{σ:St}{H H':Hp}{s:c_}{B h1 h2:b9}
theorem Kp.up(I:Inv X ai σ H s)(hx:X.ex=[])(fJ:X.stack=X.env::X.bA)(k:Kp (fg X.stack) H H' s.heap B h1)(sm:h1.UpToSlots h2):Kp (fg X.bA) X.tX H' X.gK.heap B h2:=by
 have nx:∀b,b∉X.ex:=λb z=>by rw[hx] at z;cases z
 have xp:∀b o,X.gK.heap.get? b=L o->b∉X.fs->b∉fg X.stack:=λb o e hb z=>by
  rcases List.mem_cons.mp (I.B4 b z) with q|q
  ·exact absurd (gy (ej e) I.ok.above) (by rw[q];exact nr _)
  ·exact hb q
 have ins:∀b,b∈X.fs->b∈fg X.stack:=λb hb=>by
  rw[fJ];unfold fg;simp only[Ag]
  split
  ·exact hb
  ·exact gD _ hb
 refine⟨λb o e n hb=>?_,λb o e n hb nf=>?_,λb o e n=>?_,λb o e hb=>?_,λb xs e=>k.mU b xs<|I.base.mU b xs e,λb o u e=>k.lL b o u<|I.base.lL b o u e,λb ps e=>?_⟩
 ·exact k.keep b o (I.base.keep b o e n hb<|nx b) (I.base.free b o e n<|nx b)<|xp b o e hb
 ·obtain⟨sl,e1⟩:=I.base.jr b o e n hb<|nx b
  obtain⟨xR,e2⟩:=k.jr b _ e1 (I.base.free b o e n<|nx b) (ins b hb) nf;obtain⟨E9,e3⟩:=sm b _ e2 nf;exact⟨E9,e3⟩
 ·obtain⟨o',e1⟩:=I.base.there b o e<|nx b
  exact k.free b o' e1 (I.base.free b o e n<|nx b)
 ·obtain⟨o',e1⟩:=I.base.there b o e<|nx b
  exact k.there b o' e1<|xp b o e hb
 ·obtain⟨m1,e1⟩:=I.base.mQ b ps e
  obtain⟨m2,e2⟩:=k.mQ b _ e1;exact⟨m1++m2,by rw[e2,JP]⟩
def Mv(X:Cx)(h:b9):b9:=Au h<|fg X.stack
theorem Mw(I:Inv X ai σ H s)(e:s.heap.get? b=L o)(hb:b∉fg X.stack):(Mv X s.heap).get? b=L o:=FZ _ e hb
theorem noFr_hok(I:Inv X ai σ H s):eK X.prog X.w H<|Mv X s.heap:=λa o e=>
 (I.bL a o e).vO (λb u hb q=>Mw I q λz=>by
   have n:=I.OH b z;rcases hb with r|r
   ·rw[r,e] at n;cases n
   ·rw[r] at n;cases n) (λ_ q=>q) λ_ _ q=>q
theorem Kp.start(I:Inv X ai σ H s)(k:∀b o,s.heap.get? b=L o->h1.get? b=L o):Kp (fg X.stack) H H s.heap (Mv X s.heap) h1:=⟨λb o e _ hb=>Mw I e hb,λb o e _ _ _=>⟨o.slots,k b o e⟩,λ_ _ _ n=>n,λb o e hb=>⟨o,Mw I e hb⟩,λ_ _ e=>e,λ_ _ _ e=>e,λb ps e=>⟨#[],by rw[e];simp⟩⟩
end
section
variable{P:cO}{w:World}{K:aq}{mg:ax->au aH}{base:b9}{N:af ax}{cQ:ax}{aT:mx}{f C:ak}{cd:aH}{A:oj}{bA:af j9}{s:c_}{H:Hp}{E:XK}
theorem aA:mq (aQ P w C) (jF (aQ P w C) P w K mg base N cQ aT f cd A bA s H E) E:=by
 intro ai σ U s1 e s2 I h;obtain⟨a,t,H',B,rfl,ho,hb,fl,hk,kp,q⟩:=h;exact wpAny_leaves_onW I.ok.frames J fl λh' x1 x2=>⟨a,t,H',B,J,ho.trans I.os,hb,x1,hk,Kp.up I J J kp x2,q⟩
def Ql(C:ak)(X:Cx)(E:XK):Prop:=∀ai(σ:St)H s h' e vs,Inv X ai σ H s->Heap.MadeExcOf s.heap h' e (.ref C) vs->E (.ref C) ah H->X.xe (.ref e) {s with heap:=h'}
theorem Iq:Ql C (jF (aQ P w C) P w K mg base N cQ aT f cd A bA s H E) E:=by
 intro ai σ U s1 h1 e vs I hm q;have hin:∀env∈(jF _ P w K mg base N cQ aT f cd A bA s H E).stack,∀b,env.frame=L b->b∈fg (jF (aQ P w C) P w K mg base N cQ aT f cd A bA s H E).stack:=λenv he b hb=>List.mem_filterMap.mpr ⟨env,he,hb⟩;refine wpAny_leaves_madeW I.ok.frames J (λb o z=>Kt _ z) (PySem.W.funFrames_hide I.stack hin) hm λh' t x1 _ _ x4=>?_;exact⟨e,t,U,_,J,I.os,I.eG,x1,noFr_hok I,Kp.up I J J (Kp.start I hm.keeps) x4,q⟩
theorem mI:Kn (bX P w) (A.deeper<|jG cQ aT s.heap.objs.size f cd) (jG cQ aT s.heap.objs.size f cd) (jF (aQ P w C) P w K mg base N cQ aT f cd A bA s H E).xe:=PassesOwn.leaving
theorem bh.qi{st:dq}(F:bh K x cQ st f fd)(S:bF N ps<|ba st)(bH:∀vs H Q E,sp vs H Q E->vs.length=ps.length)
 (yY:∀cj A bA s H vs Q E,eF k (A.deeper<|jG cQ (ba st) s.heap.objs.size f cj)->sp vs H Q E-> ∃t,gV (jF (aQ P w C) P w K mg base N cQ (ba st) f cj A bA s H E) (iI st) t/\t {nx:=λ_ H'=>Q .cu H',rt:=Q} (start N vs) H):aD P w K mg base (aQ P w C) (k+1) f fd ps sp:=by
 sleep 3;obtain⟨oc,od,kV,dX,pm,an,cj,ct,vi,rfl,lk,my⟩:=F.ex;sleep 4;exact RR lk my S bH λA bA s H vs Q E hr iL=>yY cj A bA s H vs Q E hr iL
end
structure yf(K:aq)(C:ak):Prop where
 is:YJ K C [.type "Exception",.type "BaseException",.type "object"] "Exception.__new__"=ao
theorem yf.obj{K:aq}(x:yf K C)(k:K.In h):∃tl N nm q bs hdct sn sub ab col dd k0 k1 k2 k3 k5,∃mN,h.get? C=L (excClassObj nm q C N bs tl hdct sn sub ab col dd k0 k1 k2 k3 k5 "Exception.__new__")/\h.Ns N mN/\mN "__init__"=ah/\OwnTail h [.type "Exception",.type "BaseException",.type "object"] tl:=by
 have q:=x.is;unfold YJ at q
 split at q
 ·next dd cd sl ho=>
  split at q
  ·next C' tl k0 k1 k2 k3 n k5 e1 e2=>
   simp only[eX,eX,eX,eX,eX] at q;sleep 3;obtain⟨⟨⟨⟨⟨q1,q2⟩,q3⟩,q4⟩,q5⟩,q6⟩:=q;sleep 4;have z1:=eq_of_beq q1;have z2:=eq_of_beq q2;have z3:=by simpa using q3
   have z6:=eq_of_beq q6;subst z1 z2
   cases cd
   subst e1 z3
   cases sl
   subst e2;exact⟨tl,_,_,_,_,_,_,_,_,_,dd,k0,k1,k2,k3,k5,_,k _ _ ho,.of_isNs<|PySem.W.isNs_of_in k q5,PySem.W.nsMap_none_of_in k q5 z6,PySem.W.tail_of_in k q4⟩
  ·cases q
 ·cases q
section
variable{X:Cx}{C:ak}{E:XK}{x msg:ax}{np sy pos p1:gW}{j:ag}
theorem Il(hc:X.kj=ao)(ex:yf X.K C)(hr:Ql C X E)(hg:Gl X x)(hm:X.mg x=L (.ref C))(hd:(x=="__debug__")=aM:=by decide):PS X (.Raise (L<|.Call (.Name x np) [.Constant (.str msg) j p1] [] sy) ah pos) λ_ _ H=>E (.ref C) ah H:=by
 intro ai s σ H D I h;sleep 3;obtain⟨tl,N,nm,q,bs,hdct,sn,sub,ab,col,dd,k0,k1,k2,k3,k5,mN,hC,hN,hni,T⟩:=ex.obj I.iM;sleep 4;refine wpAny_Raise_call_subT (nm:=nm) (q:=q) (N:=N) (bs:=bs) (hdct:=hdct) (sn:=sn) (sub:=sub) (ab:=ab) (col:=col) (dd:=dd) (k0:=k0) (k1:=k1) (k2:=k2) (k3:=k3) (k5:=k5)
  PySem.F.excBase_Exception (T.hasType PySem.F.excBase_Exception.hasBase) (I.ok.hd hc) J hni<|zl I hg hm ⟨J,?_⟩ hd
 refine XB ?_;show b_ _ _ (spliced<|(aM,dg _ X.env)::jC sy _) _ _ s;exact XC (Calls.Constant_str<|XD ⟨J,by show 1<=bI;decide,hC,hN,T,λh' e hmade=>hr ai σ H _ h' e _ (I.mf _) hmade h⟩)
end
section
variable{X:Cx}{C:ak}{x:ax}{np Bk pos:gW}{body:af dq}{b0:dq}{B5:af dq}
abbrev Cx.UU(X:Cx)(pl:af<|ak×eR):Cx:={X with pn:=X.pn++pl}
def Ye(X:Cx)(C:ak)(Sg:St->Prop)(Hc:Hp->Prop)(pl:af<|ak×eR)(e:aH)(s2:c_):Prop:=∃(ai:af<|ak×eR)(σ:St)(H H':Hp)(s s1:c_)(B h4:b9)(a t:ak),e= .ref a/\s2={s1 with heap:=h4}/\Inv (X.UU pl) ai σ H s/\Sg σ/\s1.os=s.os/\tQ s1.gens/\Heap.HeldW B (X.env::X.bA) a (.ref C) (.ref t) X.env.locals h4/\s1.heap.UpToSlots h4/\eK X.prog X.w H' B/\Kp (fg X.stack) H H' s.heap B s1.heap/\Hc H'
abbrev Cx.vT(X:Cx)(C:ak)(Sg:St->Prop)(Hc:Hp->Prop)(pl:af<|ak×eR):Cx:={X with
 pn:=X.pn++pl
 xe:=λe s'=>b_ (bX X.prog X.w) X.A (HF e X.env) (λ_ s2=>Ye X C Sg Hc pl e s2) (λ_ _=>e_) s'}
abbrev Cx.wM(X:Cx)(pl:af<|ak×eR)(e:aH):Cx:={X with A:=X.A.mark<|L e,kj:=aM,pn:=X.pn++pl,xe:=λ_ _=>e_}
theorem Cx.Ok.at_{X Y:Cx}(ok:X.Ok)(h1:Y.K=X.K)(h2:Y.mg=X.mg)(h3:Y.base=X.base)(h4:Y.env=X.env)(h5:Y.gK=X.gK)(h6:Y.tX=X.tX)(h7:Y.bA=X.bA)(h8:Y.stack=X.stack)(h9:Y.ex=X.ex)(sG:Y.fn=X.fn)
 (qL:Y.A.frames=X.A.frames) (h12:Y.kj=ao->Y.A.handled=ah):Y.Ok:=by
 obtain⟨a1,a2,a3,a4,a5,a6,a7,a8,a9,jU,pF,pG,pH,pI,pJ,pK,pL,pM⟩:=ok;obtain⟨prog,w,K,mg,base,A,N,s0,H0,env,bA,stack,ex,fn,kj,pn,xe⟩:=X;subst h1 h2 h3 h4 h5 h6 h7 h8 h9 sG;exact⟨a1,a2,a3,a4,a5,a6,a7,a8,h12,qL.trans jU,pF,pG,pH,pI,pJ,pK,pL,pM⟩
theorem UP{σ:St}(I:Inv (X.vT C Sg Hc pl) ai σ H s)(g:Sg σ)(h:aQ X.prog X.w C X.stack H s (λ_ _ H'=>Hc H') e s')(fJ:X.stack=X.env::X.bA:=by rfl)(hf:X.env.frame=L X.env.locals:=by rfl):(X.vT C Sg Hc pl).xe e s':=by
 obtain⟨a,t,H',B,rfl,os,eG,fl,bL,kp,hc⟩:=h;have DE:JW B (X.env::X.bA) a (.ref C) (.ref t) s'.heap:=by rw[<-fJ];exact fl
 refine wpAny_looks_onW (show X.A.frames=L _ by rw[<-fJ];exact I.ok.frames) hf DE λh4 DN hJ=>?_;exact⟨ai,σ,H,H',s,s',B,h4,a,t,J,J,⟨I.ok.at_ J J J J J J J J J J J I.ok.hd,I.os,I.eG,I.base,I.hZ,I.cell,I.free,I.jY,I.jn,I.bL,I.bH⟩,g,os,eG,DN,hJ,bL,kp,hc⟩
theorem EA{Hc:Hp->Prop}{pl:af (ak×eR)}(fJ:X.stack=X.env::X.bA:=by rfl)(hf:X.env.frame=L X.env.locals:=by rfl):mq (aQ X.prog X.w C) (X.vT C (λ_=>jb) Hc pl) λ_ _ H'=>Hc H':=λ_ _ _ _ _ _ I h=>UP I ck h fJ hf
theorem ownTry:Kn (bX X.prog X.w) X.A X.env (X.vT C Sg Hc pl).xe:=PassesOwn.looking
theorem Inv.landed{σ:St}{s s':c_}(I:Inv (X.UU pl) ai σ H s)(hx:X.ex=[])(fJ:X.stack=X.env::X.bA)(hf:X.env.frame=L X.env.locals)
 (os:s'.os=s.os) (eG:tQ s'.gens) (bL:eK X.prog X.w H' B) (kp:Kp (fg X.stack) H H' s.heap B s'.heap) (sm:s'.heap.UpToSlots h2) (hB:B.StaysIn h2):Inv (X.wM pl e) [] σ H' {s' with heap:=h2}:=by
 have up:=Kp.up I hx fJ kp sm;have inL:X.env.locals∈fg X.stack:=by
  rw[fJ];unfold fg;simp only[Ag,hf];exact iB
 have any:∀b o,s.heap.get? b=L o->H b=ah->_-> ∃sl,h2.get? b=L {o with slots:=sl}:=λb o e n nf=>by
  by_cases hb:b∈fg X.stack
  ·obtain⟨sl,e1⟩:=kp.jr b o e n hb nf
   obtain⟨E9,e3⟩:=sm b _ e1 nf;exact⟨E9,e3⟩
  ·exact⟨o.slots,hB b o<|kp.keep b o e n hb⟩
 have Ds:∀y c,X.env.cells.lookup y=L c-> ∀v,s.heap.IsCell c v->h2.IsCell c v:=λy c e v dm=>by
  obtain⟨o,ho,hd⟩:=dm;obtain⟨sl,q⟩:=any c o ho (I.jY y c e) λvs z=>by rw[hd] at z;cases z
  exact⟨_,q,hd⟩
 sleep 3;obtain⟨m,⟨oL,es,ep,hoL,hdL,rL⟩,hl⟩:=I.hZ;sleep 4;obtain⟨slL,eL⟩:=any X.env.locals oL hoL I.free λvs z=>by rw[hdL] at z;cases z
 refine⟨I.ok.at_ J J J J J J J J J J J (λz=>nomatch z),os.trans I.os,eG,?_,⟨m,⟨_,es,ep,eL,hdL,rL⟩,λi y v h1 Lp h3=>?_⟩,λy c e=>?_,?_,λy c e=>?_,λp hp=>?_,bL.kept hB,I.bH⟩
 ·have T6:∀b,b∉(X.wM pl e).ex:=λb z=>by
   rw[hx] at z;cases z
  refine⟨λb o q n hb _=>hB b o<|up.keep b o q n hb,λb o q n hb _=>?_,λb o q n _=>up.free b o q n,λb o q _=>?_,up.mU,up.lL,up.mQ⟩
  ·obtain⟨_,o',nQ,nf⟩:=I.ok.lM.mem hb
   have zz:=q;rw[show X.gK.heap.get? b=L o' from nQ] at zz
   cases zz
   exact up.jr b _ q n hb nf
  ·by_cases hb:b∈X.fs
   ·obtain⟨_,o',nQ,nf⟩:=I.ok.lM.mem hb
    have zz:=q;rw[show X.gK.heap.get? b=L o' from nQ] at zz
    cases zz
    obtain⟨sl,z⟩:=up.jr b _ q (I.ok.uG b hb) hb nf;exact⟨_,z⟩
   ·obtain⟨o',z⟩:=up.there b o q hb
    exact⟨o',hB b o' z⟩
 ·obtain⟨u,r,l⟩:=hl i y v h1 Lp h3
  refine⟨u,r,?_⟩;rcases l with l|⟨kk,c,e1,z⟩
  ·exact .inl l
  ·exact .inr ⟨kk,c,e1,Ds y c e1 _ z⟩
 ·obtain⟨v,z⟩:=I.cell y c e
  exact⟨v,Ds y c e v z⟩
 ·exact kp.free _ oL hoL I.free
 ·obtain⟨v,o,ho,_⟩:=I.cell y c e
  exact kp.free c o ho<|I.jY y c e
 ·have DR:p∈X.pn++pl:=by simpa using hp
  obtain⟨e1,n1,ne,nf,d⟩:=I.jn p<|PQ _ DR;have hb:p.1∉fg X.stack:=λz=>by
   rcases List.mem_cons.mp (I.B4 p.1 z) with q|q
   ·exact ne q
   ·exact nf q
  exact⟨hB p.1 p.2<|kp.keep p.1 p.2 e1 n1 hb,kp.free p.1 p.2 e1 n1,ne,nf,d⟩
theorem W3{σ:St}(hx:X.ex=[])(fJ:X.stack=X.env::X.bA)(hf:X.env.frame=L X.env.locals)(ex:yf X.K C)(hg:Gl X x)(hm:X.mg x=L (.ref C))
 (hb:gV (X.vT C Sg Hc ai) body tb) (hs:∀pl e,gV (X.wM pl e) (b0::B5) ts) (hd:(x=="__debug__")=aM) (I:Inv X ai σ H s) (h1:tb D σ H) (h2:∀aS H',Sg aS->Hc H'->aS.length=σ.length->ts D aS H'):
 b_ (bX X.prog X.w) X.A (exec (.Try body [.ExceptHandler (L<|.Name x np) ah (b0::B5) Bk] [] [] pos) X.env) (SP X ai D) X.xe s:=by
 have I1:Inv (X.vT C Sg Hc ai) [] σ H s:=⟨I.ok.at_ J J J J J J J J J J J I.ok.hd,I.os,I.eG,I.base,I.hZ,I.cell,I.free,I.jY,λp hp=>I.jn p<|by simpa using hp,I.bL,I.bH⟩;have Gd:∀{aS:St}{H':Hp}{s':c_},Inv (X.vT C Sg Hc ai) [] aS H' s'->Inv X ai aS H' s':=λcG=>
  ⟨I.ok,cG.os,cG.eG,cG.base,cG.hZ,cG.cell,cG.free,cG.jY,λp hp=>cG.jn p<|by simpa using hp,cG.bL,cG.bH⟩
 refine wpAny_Try_except (lr (hb [] s σ H D I1 h1) (λf s1 q=>?_) λe s1 q=>?_)
 ·cases f with
  |next=>
   obtain⟨aS,H',cG,z⟩:=q;exact JL ⟨aS,H',Gd cG,z⟩
  |brk=>obtain⟨aS,H',cG,z⟩:=q;exact⟨aS,H',Gd cG,z⟩
  |cont=>obtain⟨aS,H',cG,z⟩:=q;exact⟨aS,H',Gd cG,z⟩
  |ret u=>obtain⟨v,aS,H',cG,r,z⟩:=q;exact⟨v,aS,H',Gd cG,r,z⟩
 ·refine lr q (λ_ sq z=>?_) λ_ _ z=>z.elim
  sleep 3;obtain⟨pins2,de,H2,H',s2,s1,B,h4,a,t,rfl,rfl,cG,sg,os,eG,DN,hJ,bL,kp,hc⟩:=z;sleep 4;refine wpAny_landsW DN λh5 Lc md=>?_;have J5:Inv (X.wM ai<|.ref a) [] de H' {s1 with heap:=h5}:=Inv.landed cG hx fJ hf os eG bL kp (hJ.trans md) Lc.1;refine wpAny_handleBy_cons (codeAny_handlers_test<|zl J5 hg hm ?_ hd) (by intro z;cases z);sleep 3;obtain⟨tl,N,nm,q,bs,hdct,sn,sub,ab,col,dd,k0,k1,k2,k3,k5,mN,hC,hN,hni,T⟩:=ex.obj J5.iM;sleep 4;obtain⟨ob,hob,hobc⟩:=Lc.there;refine wpAny_excMatches_sub_self hC hob hobc (T.hasType PySem.F.excBase_Exception.hasBase)<|codeAny_handlers_suite ?_;refine lands_againW Lc λh6 RQ sm6=>?_;have J6:Inv (X.wM ai<|.ref a) [] de H' {s1 with heap:=h6}:=Inv.landed cG hx fJ hf os eG bL kp ((hJ.trans md).trans sm6) RQ.1;have bH:=cG.bH.trans I.bH.symm;refine lr (hs ai _ [] _ de H' D J6<|h2 de H' sg hc bH) (λf s3 z=>?_) λ_ _ z=>ic z;have Ge:∀{aS:St}{H':Hp}{s':c_},Inv (X.wM ai<|.ref a) [] aS H' s'->Inv X ai aS H' s':=λcG=>
   ⟨I.ok,cG.os,cG.eG,cG.base,cG.hZ,cG.cell,cG.free,cG.jY,λp hp=>cG.jn p<|by simpa using hp,cG.bL,cG.bH⟩
  cases f with
  |next=>obtain⟨aS,H',cG,y⟩:=z;exact⟨aS,H',Ge cG,y⟩
  |brk=>obtain⟨aS,H',cG,y⟩:=z;exact⟨aS,H',Ge cG,y⟩
  |cont=>obtain⟨aS,H',cG,y⟩:=z;exact⟨aS,H',Ge cG,y⟩
  |ret u=>obtain⟨v,aS,H',cG,r,y⟩:=z;exact⟨v,aS,H',Ge cG,r,y⟩
def tTry(tb:(Hp->Prop)->TS)(ts:TS):TS:=λD σ H=>∃Hc,tb Hc D σ H/\ ∀aS H',Hc H'->aS.length=σ.length->ts D aS H'
theorem EH(hx:X.ex=[])(fJ:X.stack=X.env::X.bA)(hf:X.env.frame=L X.env.locals)(ex:yf X.K C)(hg:Gl X x)(hm:X.mg x=L (.ref C))
 (hb:∀Hc pl,gV (X.vT C (λ_=>jb) Hc pl) body<|tb Hc) (hs:∀pl e,gV (X.wM pl e) (b0::B5) ts) (hd:(x=="__debug__")=aM:=by decide):
 PS X (.Try body [.ExceptHandler (L<|.Name x np) ah (b0::B5) Bk] [] [] pos)<|tTry tb ts:=λai _ _ _ _ I dW=>by obtain⟨Hc,h1,h2⟩:=dW;exact W3 hx fJ hf ex hg hm (hb Hc ai) hs hd I h1 λaS H' _=>h2 aS H'
def tTryAt(tb:St->(Hp->Prop)->TS)(ts:TS):TS:=λD σ H=>∃Hc,tb σ Hc D σ H/\ ∀H',Hc H'->ts D σ H'
theorem ps_tryAt(hx:X.ex=[])(fJ:X.stack=X.env::X.bA)(hf:X.env.frame=L X.env.locals)(ex:yf X.K C)(hg:Gl X x)(hm:X.mg x=L (.ref C))
 (hb:∀yb Hc pl,gV (X.vT C (λσ=>σ=yb) Hc pl) body<|tb yb Hc) (hs:∀pl e,gV (X.wM pl e) (b0::B5) ts) (hd:(x=="__debug__")=aM:=by decide):
 PS X (.Try body [.ExceptHandler (L<|.Name x np) ah (b0::B5) Bk] [] [] pos)<|tTryAt tb ts:=λai _ σ _ _ I gw=>by obtain⟨Hc,h1,h2⟩:=gw;exact W3 hx fJ hf ex hg hm (hb σ Hc ai) hs hd I h1 λaS H' e hc _=>e▸h2 H' hc
theorem pe_methAt{lH:gW}{yb:St}{pl:Sem df}(he:PE X o ta)(c:j8 X.K C)(hm:pq X.K C m f)(F:aD X.prog X.w X.K X.mg X.base CX k f fd ps sp)(hr:eF k X.A)(hb:Binds X.K fd ps [])
 (hx:∀ai H s e s',Inv X ai yb H s->CX X.stack H s E e s'->X.xe e s') (ha:PA X (e::es) t) (fJ:dv (e::es) X.env=(aM,dg e X.env)::dv es X.env:=by rfl) (fw:(jC pos<|dv es X.env).any (·.1)=aM:=by rfl)
 (ht:dg (.Call (.Attribute o m lH) (e::es) [] pos) X.env=(do
   let ov<-dg o X.env
   Jp lH.atName
   let(f,first)<-Bi [ov] (GU ov m pl)
   Gk pos f first (jC pos<|dv (e::es) X.env) (Di pos<|DX [] X.env)):=by rfl):
 PE X (.Call (.Attribute o m lH) (e::es) [] pos) λσ H Q=>σ=yb/\eE C m sp [] E ta t σ H Q:=by
 intro ai s σ H Q I ⟨e0,h⟩;subst e0;refine Qe (cn (he ai s σ H _ I h) λu s1⟨x,U,I1,rx,a,dx,fs,ex,ea,l,q⟩=>?_) ht;subst ex;obtain rfl:u=kg a:=rx;refine Ln I1 ea c hm l ?_;refine Ar I.ok.mod.sV hm.kp (cn (ha pos ai s1 σ U _ I1 q) λus s2⟨vs,H2,I2,r,q2⟩=>⟨I2.iM,?_⟩) fJ fw;have r2:cJ (.ref a::vs++[]) _:=cJ.append (.cons J r) .nil;have hl:(.ref a::us++[]:af aH).length=ps.length:=by rw[<-r2.length];exact F.bH _ _ _ _ q2
 refine O_ (yN (F.run X.A X.stack s2 H2 ⟨.ref a::us,[]⟩ _ _ Q E hr I2.GH (hb s2 _ I2.iM hl) r2 q2) λr s' hq=>?_)
 cases r with
 |error e=>exact hx ai H2 s2 e s' I2 hq
 |ok fl=>
  cases fl with
  |ret u=>exact I2.F8 hq
  |next=>exact ic hq
  |brk=>exact ic hq
  |cont=>exact ic hq
end
end L2
namespace L2
open PySem PySem.Spec PyProof.Rows
theorem Gg(h:i.natAbs<2^n):kG i<=n:=by
 unfold kG
 split
 ·exact eM _
 ·rename_i z
  have z0:i.natAbs≠0:=λq=>z (by simp;lia);exact(wo z0).mpr h
section
variable{X:Cx}{o e:Expr}{es:af Expr}{to tf:TE}{t:TA}{pos lH p:gW}{x:ax}
theorem lV:fY X (nE .LShift) (rI (λi j=>0<=j/\j<=100000/\i.natAbs<2^250) λi j=>.int<|i*2^j.toNat):=xC λ_ _ _ _ _ _ _ hc q=>lshift_int hc.1 (by
 have:=Gg hc.2.2
 lia) q
theorem op_mulB:fY X (nE .Mult) (rI (λi j=>i.natAbs<2^250/\j.natAbs<2^250) λi j=>.int<|i*j):=xC λ_ _ _ _ _ _ _ hc q=>mul_int q (IntMulOk.of_bits (dN (Gg hc.1) dc)<|dN (Gg hc.2) dc)
theorem noPylong_400(h:j.natAbs<2^250):Builtin.divisionGoesByPylong i j=aM:=by
 refine PyProof.noPylong_of_log2 ?_;by_cases z:j.natAbs=0
 ·rw[z];decide
 ·have:=(wo z).mpr h
  lia
theorem Ig:fY X (nE .FloorDiv) (rI (λ_ j=>0<j/\j.natAbs<2^250) λi j=>.int<|i/j):=xC λi j _ _ _ _ _ hc q=>by
 exact floordiv_int om (by rw[J1 i om];exact q) (.inl<|noPylong_400 hc.2)
theorem op_and1:fY X (nE .BitAnd) (λx y H Q=>∃i,x= .int i/\y= .int 1/\Q (.int<|i%2) H):=by
 intro ai s σ H x y v u Q I rx ry h;obtain⟨i,rfl,rfl,q⟩:=h;refine op_and ai s σ H _ _ v u Q I rx ry ⟨i,1,J,J,?_⟩;show Q (.int _) H;rw[bitAnd_m1];exact q
theorem iY:fY X (nI .Eq) (gu λi j=>.bl<|decide (i=j)):=Ew λ_ _ _ _ _ _ _ q=>eq_int (by rw[Bool.beq_eq_decide_eq];exact q)
theorem UM:fY X (nI .NotEq) (λx y H Q=>∃a b,x= .bl a/\y= .bl b/\Q (.bl<|a !=b) H):=by
 intro ai s σ H x y v u Q I rx ry h;sleep 3;obtain⟨a,b,rfl,rfl,q⟩:=h;sleep 4;refine op_ne ai s σ H _ _ v u Q I rx ry ⟨J,?_⟩;have e:(!decide (V.bl a=V.bl b))=(a !=b):=by cases a<;>cases b<;>rfl
 rw[e];exact q
def tBitLen(to:TE):TE:=λσ H Q=>to σ H λx U=>∃i,x= .int i/\Q (.int<|kG i) U
theorem EC(ho:PE X o to)(LF:Gb o "bit_length" X.env (dg o X.env)=dg o X.env:=by rfl)(LL:(lH.endLine==pos.line)=ao:=by rfl):PE X (.Call (.Attribute o "bit_length" lH) [] [] pos)<|tBitLen to:=by
 intro ai s σ H Q I h;refine PySem.Call_method0 LF LL (cn (ho ai s σ H _ I h) λv s1⟨y,U,I1,r1,q1⟩=>?_);obtain⟨i,rfl,q⟩:=q1;obtain⟨t,rfl⟩:=_root_.id r1;exact⟨"int",_,F.plainAttrs_int,slot_int_bit_length,type_int_bit_length,typeIs_int _ _ _,(λ_ z=>nomatch z),XA J (PySem.evalArgs_none<|call_int_bit_length ⟨.int _,U,I1.mf _,⟨_,J⟩,q⟩)⟩
def OL(f:ak)(sp:Sp)(E:XK)(tf:TE)(t:TA):TE:=λσ H Q=>tf σ H λv U=>v= .ref f/\t σ U λvs H2=>sp (vs++[]) H2 Q E
theorem zI(hf:PE X fe tf)(F:aD X.prog X.w X.K X.mg X.base CX k f fd ps sp)(hr:eF k X.A)(hk:jx X.K (.ref f)=ao)(hb:Binds X.K fd ps [])(hx:mq CX X E)
 (ha:PA X (e::es) t) (he:dv (e::es) X.env=(aM,dg e X.env)::dv es X.env:=by rfl) (fw:(jC pos<|dv es X.env).any (·.1)=aM:=by rfl)
 (hc:dg (.Call fe (e::es) [] pos) X.env=(do Gk pos (<-dg fe X.env) [] (jC pos<|dv (e::es) X.env) (Di pos<|DX [] X.env)):=by rfl):PE X (.Call fe (e::es) [] pos)<|OL f sp E tf t:=by
 intro ai s σ H Q I h;refine Call_ (cn (hf ai s σ H _ I h) λu s1⟨v,U,I1,r1,ev,q1⟩=>?_) hc;subst ev;obtain rfl:u=kg f:=r1;refine Ar I1.ok.mod.sV hk (cn (ha pos ai s1 σ U _ I1 q1) λus s2⟨vs,H2,I2,r,q⟩=>⟨I2.iM,?_⟩) he fw;exact BP F hr hb .nil hx I2 r q
end
def Hk:V->df
 | .cu=>ao
 |_=>aM
def yP:aH->df
 | .none=>ao
 |_=>aM
section
variable{X:Cx}
theorem SO{σ:St}(I:Inv X ai σ H s)(hu:A.units<oA):∀{xs:af V}{us:af aH},cJ xs us->(∀y∈xs,y= .cu\/ ∃a ys,y= .ref a/\cH X.K H a ys)->(∀u∈us,YV A s u .none<|yP u)/\us.any yP=xs.any Hk
 |_,_,.nil,_=>⟨(λ_ h=>nomatch h),J⟩
 |y::xs,u::us,.cons r t,f=>by
  obtain⟨i1,i2⟩:=SO I hu t λz hz=>f z<|gD _ hz;have h1:YV A s u .none (yP u)/\yP u=Hk y:=by
   rcases f y iB with rfl|⟨a,ys,rfl,hq⟩
   ·cases r
    exact⟨SeqAt.EqAt.same _,J⟩
   ·cases r
    obtain⟨aZ,_,pl,_⟩:=I.tuple hq;exact⟨SeqAt.EqAt.tuple_none pl hu,J⟩
  refine⟨λz hz=>?_,by rw[yh,yh,h1.2,i2]⟩;rcases List.mem_cons.mp hz with rfl|hz
  ·exact h1.1
  ·exact i1 z hz
inductive U9(K:aq)(x:V)(y:V)(H:Hp)(Q:VK):Prop
 |mk:∀p xs,x= .cu->y= .ref p->SqL K H p xs->((∀y∈xs,y= .cu\/ ∃a ys,y= .ref a/\cH K H a ys))->Q (.bl<|xs.any Hk) H->U9 K x y H Q
theorem op_in_none(hu:X.A.units+64<oA):fY X (nI .In)<|U9 X.K:=by
 intro ai s σ H x y v u Q I rx ry h;obtain⟨p,xs,rfl,rfl,hq,hf,q⟩:=h
 cases rx
 cases ry
 obtain⟨aZ,r,pl,hz⟩:=I.list hq;obtain⟨h1,h2⟩:=SO (A:=X.A.in1) I (by show X.A.units+1<oA;lia) r hf;refine SeqAt.in_listAt yP pl.isList (λw hw=>?_) ⟨.bl _,H,I,J,?_⟩
 ·exact h1 w<|by simpa using hw
 ·rw[show aZ.toArray.any yP=aZ.any yP by simp,h2]
  exact q
end
end L2
namespace L2
open PySem PySem.Spec PyProof.Rows
theorem az.tup{K:aq}(e:az H H')(h:cH K H a xs):cH K H' a xs:=by
 rcases h with(h|⟨o,h⟩)|h
 ·exact .inl (.inl<|e _ _ h)
 ·exact .inl<|.inr ⟨o,e _ _ h⟩
 ·exact .inr h
theorem az.new(h:H p=ah):az H<|aC H p o:=λb u e=>by
 rw[bJ<|dy e h];exact e
abbrev bE(α:Type):=Hp->V->α->Prop
def cY(R:bE α):Prop:=∀H H' v x,az H H'->R H v x->R H' v x
structure bQ(C:ak)(R:bE α)(H:Hp)(r:au α)(Q:VK)(E:XK):Prop where
 ok:∀H' v y,az H H'->r=L y->R H' v y->Q v H'
 no:∀H',az H H'->r=ah->E (.ref C) ah H'
section
variable{α β:Type}{C:ak}{R:bE α}{R':bE β}{H U:Hp}{r:au α}{Q:VK}{E:XK}{σ:St}
theorem bQ.at_(k:bQ C R H r Q E)(s:az H U):bQ C R U r Q E:=⟨λH' v y s' e h=>k.ok H' v y (s.trans s') e h,λH' s' e=>k.no H' (s.trans s') e⟩
theorem bQ.eq(k:bQ C R H r Q E)(e:r=r'):bQ C R H r' Q E:=e▸k
def NT(C:ak)(E:XK)(R:bE α)(r:au α)(σ:St)(H:Hp)(te:TE):Prop:=∀U Q,az H U->bQ C R U r Q E->te σ U Q
theorem NT.at_(h:NT C E R r σ H te)(s:az H U):NT C E R r σ U te:=λH2 Q s2 k=>h H2 Q (s.trans s2) k
theorem NT.eq(h:NT C E R r σ H te)(e:r=r'):NT C E R r' σ H te:=e▸h
theorem bQ.by(k:bQ C R H r Q E)(h:NT C E R r σ H te):te σ H Q:=h H Q (az.refl H) k
theorem bQ.bind(k:bQ C R H (rb.bind f) Q E)(h:NT C E R' rb σ H te)
 (hq:∀y v U,az H U->rb=L y->R' U v y->bQ C R U (f y) Q E->Q' v U):te σ H Q':=by
 refine h H Q' (az.refl H) ⟨λH' v y s e q=>hq y v H' s e q ?_,λH' s e=>?_⟩
 ·have k':=k.at_ s
  rw[e] at k';exact k'
 ·refine k.no H' s ?_
  rw[e];rfl
theorem NT.go(h:NT C E R' (L y) σ H te)(hq:∀v U,az H U->R' U v y->Q' v U):te σ H Q':=h H Q' (az.refl H) ⟨λH' v z s e q=>by cases e;exact hq v H' s q,λ_ _ e=>nomatch e⟩
theorem aj(hi:σ[i]? =L (L v))(m:cY R)(h:R H v y):NT C E R (L y) σ H<|aw i:=λU Q s k=>⟨v,hi,k.ok U v y (az.refl _) J<|m _ _ _ _ s h⟩
theorem iP(m:cY R)(h:R H v y):NT C E R (L y) σ H<|tC v:=λU Q s k=>k.ok U v y (az.refl _) J<|m _ _ _ _ s h
abbrev gk(τ:Type):=Hp->af V->τ->Prop
def cg:gk gF:=λ_ vs _=>vs=[]
inductive aE(R:bE α)(A:gk τ)(H:Hp)(vs:af V)(x:α×τ):Prop
 |mk:∀v r,vs=v::r->R H v x.1->A H r x.2->aE R A H vs x
def FK(A:gk τ):Prop:=∀H H' v x,az H H'->A H v x->A H' v x
theorem zt:FK cg:=λ_ _ _ _ _ h=>h
theorem mH{A:gk τ}(h1:cY R)(h2:FK A):FK<|aE R A:=λH H' vs x s h=>by
 obtain⟨v,r,e,a,b⟩:=h;exact⟨v,r,e,h1 _ _ _ _ s a,h2 _ _ _ _ s b⟩
structure YU(C:ak)(A:gk τ)(H:Hp)(t:au τ)(Q:af V->Hp->Prop)(E:XK):Prop where
 ok:∀H' vs y,az H H'->t=L y->A H' vs y->Q vs H'
 no:∀H',az H H'->t=ah->E (.ref C) ah H'
def NA(C:ak)(E:XK)(A:gk τ)(t:au τ)(σ:St)(H:Hp)(ta:TA):Prop:=∀U Q,az H U->YU C A U t Q E->ta σ U Q
theorem bR:NA C E cg (L ()) σ H b8:=λU Q _ k=>k.ok U [] () (az.refl _) J J
theorem aF{A:gk τ}{t:au τ}(m:cY R)(h1:NT C E R r σ H te)(h2:NA C E A t σ H ta):NA C E (aE R A) (r.bind λx=>t.map λy=>(x,y)) σ H<|aU te ta:=λU Q s k=>by
 refine h1 U _ s ⟨λH2 v x s2 e q=>h2 H2 _ (s.trans s2) ⟨λH3 vs y s3 e3 q3=>?_,λH3 s3 e3=>?_⟩,λH2 s2 e=>?_⟩
 ·exact k.ok H3 _ (x,y) (s2.trans s3) (by rw[e,e3];rfl) ⟨v,vs,J,m _ _ _ _ s3 q,q3⟩
 ·exact k.no H3 (s2.trans s3) (by rw[e,e3];rfl)
 ·exact k.no H2 s2 (by rw[e];rfl)
inductive cU(C:ak)(A:gk τ)(R:bE α)(f:τ->au α)(vs:af V)(H:Hp)(Q:VK)(E:XK):Prop
 |mk:∀t,A H vs t->bQ C R H (f t) Q E->cU C A R f vs H Q E
theorem cT{A:gk τ}{t:au τ}{f:τ->au α}(h:NA C E A t σ H ta):NT C E R (t.bind f) σ H<|d_ (cU C A R f) [] E ta:=λU Q s k=>
 h U _ s ⟨λH2 vs y s2 e q=>⟨y,by rw[pj];exact q,(k.at_ s2).eq (by rw[e];rfl)⟩,λH2 s2 e=>k.no H2 s2 (by rw[e];rfl)⟩
theorem oJ{A:gk τ}{t:au τ}{f:β×τ->au α}(h0:NT C E R' (L y) σ H te)(mo:cY R')(hi:∀U v,R' U v y-> ∃a dx fs,v= .ref a/\U a=L (.ins D dx fs)/\fs.lookup m=ah)(h:NA C E A t σ H ta):NT C E R (t.bind λx=>f (y,x)) σ H<|eE D m (cU C (aE R' A) R f) [] E te ta:=λU Q s k=>by
 refine(h0.at_ s).go λv H2 s2 q=>?_;sleep 3;obtain⟨a,dx,fs,e1,e2,e3⟩:=hi H2 v q;sleep 4;refine⟨a,dx,fs,e1,e2,e3,h H2 _ (s.trans s2) ⟨λH3 vs z s3 e q3=>⟨_,⟨v,vs,by rw[pj],mo _ _ _ _ s3 q,q3⟩,(k.at_<|s2.trans s3).eq (by rw[e];rfl)⟩,λH3 s3 e=>k.no H3 (s2.trans s3) (by rw[e];rfl)⟩⟩
theorem kC{K:aq}(j:ag)(h0:NT C E R' (L y) σ H te)(hi:∀U v,R' U v y-> ∃p xs u,v= .ref p/\cH K U p xs/\xs[j]? =L u/\R U u x):NT C E R (L x) σ H<|bY (dI K) te (tC<|.int j):=λU Q s k=>by
 refine(h0.at_ s).go λv H2 s2 q=>?_;sleep 3;obtain⟨p,xs,u,e1,e2,e3,e4⟩:=hi H2 v q;sleep 4;exact⟨p,xs,j,u,e1,J,e2,uz e3,k.ok H2 u x s2 J e4⟩
theorem zE{A:gk τ}{t:au τ}{f:τ->au α}(h:NA C E A t σ H ta)(hl:∀U vs y,A U vs y->vs.length<=bI)(hr:∀U vs y p,A U vs y->U p=L (.tup vs)-> ∃z,f y=L z/\R U (.ref p) z)(mo:FK A):NT C E R (t.bind f) σ H<|lq ta:=λU Q s k=>
 h U _ s ⟨λH2 vs y s2 e q=>⟨hl _ _ _ q,λp hp=>by
  obtain⟨z,e1,e2⟩:=hr (aC H2 p<|.tup vs) vs y p (mo _ _ _ _ (az.new hp) q) bw
  exact k.ok _ _ z (s2.trans<|az.new hp) (by rw[e];exact e1) e2⟩,λH2 s2 e=>k.no H2 s2 (by rw[e];rfl)⟩
end
end L2
namespace L2
open PySem PySem.Spec PyProof.Rows
section
variable{X:Cx}{e a:Expr}{te ta:TE}{pos:gW}
theorem fs{N P:af ax}{sc:mx}(a:sc.kind= .function:=by rfl)(b:sc.isCoroutine=aM:=by rfl)(c:sc.isGenerator=aM:=by rfl)(d:N.Nodup:=by decide+kernel)(e:N.take P.length=P:=by rfl)(f:∀x∈P,sc.names.lookup x=L .local\/sc.names.lookup x=L .cell:=by decide+kernel)(g:∀y∈sc.names,y.2≠ .free:=by decide+kernel):bF N P sc:=⟨a,b,c,d,e,f,g⟩
theorem aX(ha:PE X a ta):PE X (.Subscript a (.Constant (.int i) j p) pos)<|bY (dI X.K) ta (tC<|.int i):=d4 uQ ha a_ λ_ _=>J
theorem bu(he:PE X e ta)(hb:Gb e f X.env (dg e X.env)=dg e X.env:=by exact J):PE X (.Attribute e f pos)<|c9 X.K ta f:=pe_fld he hb
theorem bC(i:ag){oO:gW}(hN:X.N.Nodup)(he:PE X e te)(hi:X.N[i]? =L x:=by exact J)(hx:Loc X.env.scope x:=by first|exact CL J|exact FT J)(hs:z7 e (L<|.Name x oO) pos.line X.env=pure aM:=by rfl)(hf:X.fn x=ao\/X.env.scope.names.lookup x=L .local:=by first|exact .inl J|exact .inr J|assumption):PS X (.Assign [.Name x oO] e pos) (j7 te<|eI i):=ps_set hN hi hx he hs hf
theorem eC(i:ag)(hN:X.N.Nodup)(hi:X.N[i]? =L x:=by exact J)(hx:Loc X.env.scope x:=by first|exact CL J|exact FT J)(hf:X.fn x=ao\/X.env.scope.names.lookup x=L .local:=by first|exact .inl J|exact .inr J|assumption):PG X (.Name x pos)<|eI i:=pg_name hN hi hx hf
end
theorem bk(h:KR N sc aT own=ao:=by kernel_rfl):vY N sc aT own:=ZK h
theorem cY.up{R:bE α}(m:cY R)(s:az H H')(h:R H v x):R H' v x:=m _ _ _ _ s h
theorem sr:az H H:=λ_ _ h=>h
section
variable{X:Cx}{e1 e2 e3 e4 e5:Expr}{t1 t2 t3 t4 t5:TE}
theorem bz(h1:PE X e1 t1)(k1:dv [e1] X.env=(aM,dg e1 X.env)::dv [] X.env:=by rfl):PA X [e1]<|aU t1 b8:=dC h1 vm k1
theorem bK(h1:PE X e1 t1)(h2:PE X e2 t2)(k1:dv [e1,e2] X.env=(aM,dg e1 X.env)::dv [e2] X.env:=by rfl)(k2:dv [e2] X.env=(aM,dg e2 X.env)::dv [] X.env:=by rfl):PA X [e1,e2] (aU t1<|aU t2 b8):=dC h1 (bz h2 k2) k1
theorem bG(h1:PE X e1 t1)(h2:PE X e2 t2)(h3:PE X e3 t3)(k1:dv [e1,e2,e3] X.env=(aM,dg e1 X.env)::dv [e2,e3] X.env:=by rfl)(k2:dv [e2,e3] X.env=(aM,dg e2 X.env)::dv [e3] X.env:=by rfl)(k3:dv [e3] X.env=(aM,dg e3 X.env)::dv [] X.env:=by rfl):PA X [e1,e2,e3]<|aU t1 (aU t2<|aU t3 b8):=dC h1 (bK h2 h3 k2 k3) k1
end
end L2
namespace L2
open PySem PySem.Spec PyProof.Rows
section
variable{aJ:Model}{A:oj}{E:aH->c_->Prop}{s:c_}
theorem setFlight_anyW
 (G8:B.StaysIn s.heap) (hl:s.heap.FunFrames B l) (ht:s.heap.TracedAtW B e dh a0 fl)
 (h:∀h' DE,B.StaysIn h'->h'.FunFrames B l->h'.TracedAtW B e dh a0 DE->(∀b o,s.heap.get? b=L o->(∀vs,o.data≠ .fields vs)->h'.get? b=L o)->Q () {s with heap:=h'}):
 b_ aJ A (setFlight (.ref e) fr) Q E s:=by
 sleep 3;obtain⟨oe,vs,T,oT,ts,he,wX,hd,h1,uO,hTe,hT,hdT,h3⟩:=ht;sleep 4;have SH:=(Array.getElem?_eq_some_iff.mp h3).1;have other:∀b,b≠T->(s.heap.update T (Yw (·.setIfInBounds 3 (fr.elim Dd λf=>rawInt f)))).get? b=s.heap.get? b:=λb hb=>JX _ _<|dB hb
 have Eg:∀b o,s.heap.get? b=L o->(∀vs,o.data≠ .fields vs)->b≠T:=λb o hb pV q=>by
  rw[q,hT] at hb;injection hb with hb;subst hb;exact pV ts hdT
 refine dj<|Ca he hd h1 ?_
 refine wpAny_setField hT hdT SH (h _ (fr.elim Dd λf=>rawInt f) (λb o yX=>(other b λq=>by rw[q,uO] at yX;cases yX).trans<|G8 b o yX)
  (hl.of_keeps λb o hb pV=>⟨o,(other b<|Eg b o hb pV).trans hb,J⟩) ?_ λb o hb pV=>(other b<|Eg b o hb pV).trans hb)
 exact⟨oe,vs,T,_,_,(other e<|dB hTe).trans he,wX,hd,h1,uO,hTe,XH _ hT (Obj.isFreed_of_fields<|Yv hdT _),Yv hdT _,by simp[SH]⟩
theorem leaves_anyW
 (sL:A.frames=L (env::bA)) (hf:env.frame=L cN) (G8:B.StaysIn s.heap) (y_:B.get? e=ah) (hl:s.heap.FunFrames B<|env::bA) (ht:s.heap.TracedAtW B e dh a0 fl)
 (hQ:∀h',JW B bA e dh a0 h'->s.heap.UpToSlots h'->Q () {s with heap:=h'}):b_ aJ A (L7 env<|.ref e) Q E s:=by
 by_cases G7:fl=rawInt cN
 ·subst G7
  refine dj<|wpAny_noteFrame_againW hf ht ?_;refine wpAny_landsW ⟨G8,y_,hl,ht⟩ λh' G7 sm=>?_;obtain⟨k1,k2,⟨_,_,k3⟩,k4⟩:=G7;exact hQ h' ⟨k1,k2,k3,k4⟩ sm
 sleep 3;obtain⟨oe,vs,T,oT,ts,he,⟨wX,h0⟩,hd,h1,uO,hTe,hT,hdT,h3⟩:=ht;sleep 4;subst wX;unfold L7 HF;simp only[hf];refine dj (dj<|Ca he hd h1 ?_);refine dj<|Ca hT hdT h3 ?_;rw[ay (show¬_ fromλz=>G7<|eq_of_beq z)];refine dj<|wpAny_setField hT hdT (Array.getElem?_eq_some_iff.mp h3).1 ?_;have other:∀b,b≠T->(s.heap.update T (Yw (·.setIfInBounds 3 Dd))).get? b=s.heap.get? b:=λb hb=>JX _ _<|dB hb;have Eg:∀b o,s.heap.get? b=L o->(∀vs,o.data≠ .fields vs)->b≠T:=λb o hb pV q=>by
  rw[q,hT] at hb;injection hb with hb;subst hb;exact pV ts hdT
 refine wpAny_newEntryW sL (hl.of_keeps λb o hb pV=>⟨o,(other b<|Eg b o hb pV).trans hb,J⟩) hf ((other e<|dB hTe).trans he)
  (λb o yX=>(other b λq=>by rw[q,uO] at yX;cases yX).trans<|G8 b o yX) y_ hd (Array.getElem?_eq_some_iff.mp h1).1 h0
  λh' dm=>by obtain⟨x1,⟨_,_,x2⟩,x3,x4⟩:=dm;exact hQ h' ⟨x1,y_,x2,x3⟩ λb o hb pV=>x4 b o ((other b<|Eg b o hb pV).trans hb) pV
theorem R0{B B' h h':b9}:∀{l:af j9},h.FunFrames B l->(∀b,B.get? b=ah->B'.get? b=ah)->(∀b∈fg l,h'.get? b=h.get? b)->h'.FunFrames B' l
 |[],_,_,_=>trivial
 |env::l,⟨hk,⟨cN,o,hf,hn,ho,hd⟩,hr⟩,hb,hs=>by
  have e:fg (env::l)=cN::fg l:=by unfold fg;rw[Ag,hf]
  exact⟨hk,⟨cN,o,hf,hb cN hn,(hs cN (by rw[e];exact iB)).trans ho,hd⟩,R0 hr hb λb z=>hs b (by rw[e];exact gD _ z)⟩
end
section
variable{X:Cx}{C:ak}
abbrev Cx.iG(X:Cx)(C:ak)(E:XK)(s:c_)(H:Hp)(aT:mx)(f_:j9)(fp:af ak):Cx:={X.ki s H aT f_ fp with
 xe:=λe s'=>∃(ai:af<|ak×eR)(σ:St)(U:Hp)(s1:c_),Inv (X.ki s H aT f_ fp) ai σ U s1/\aQ X.prog X.w C X.stack U s1 E e s'}
theorem Inv.ZJ{σ:St}(I:Inv (X.iG C E s H aT f_ fp) ai σ U s1):Inv (X.ki s H aT f_ fp) ai σ U s1:=⟨I.ok.at_ J J J J J J J J J J J I.ok.hd,I.os,I.eG,I.base,I.hZ,I.cell,I.free,I.jY,I.jn,I.bL,I.bH⟩
theorem Inv.iG{σ:St}(I:Inv (X.ki s H aT f_ fp) ai σ U s1):Inv (X.iG C E s H aT f_ fp) ai σ U s1:=⟨I.ok.at_ J J J J J J J J J J J I.ok.hd,I.os,I.eG,I.base,I.hZ,I.cell,I.free,I.jY,I.jn,I.bL,I.bH⟩
theorem j1:mq (aQ X.prog X.w C) (X.iG C E s H aT f_ fp) E:=λai σ U s1 e s' I h=>⟨ai,σ,U,s1,I.ZJ,h⟩
def Cp(C:ak)(X:Cx)(E:XK):Prop:=∀e s' E1,(∀E2,b_ (bX X.prog X.w) X.A (L7 X.env e) (λ_ vG=>aQ X.prog X.w C X.bA X.tX X.gK E e vG) E2 s')->E1=X.xe->E1 e s'
theorem jZ{K:aq}:Cp C (jF (aQ P w C) P w K mg base N cQ aT f cd A bA s H E) E:=λe s' E1 h he=>by
 subst he;exact h _
theorem ZL(hx:X.ex=[])(fJ:X.stack=X.env::X.bA)(hf:X.env.frame=L X.env.locals)(lv:Cp C X E)
 {o5:St} (I3:Inv X pins3 o5 H3 s3) (Bb:ce.frame=X.env.frame) (wY:∀b∈fp,lA X pins3 H3 b)
 (h:(X.iG C E s3 H3 aT ce fp).xe e s'):
 xo (bX X.prog X.w) X.A ce (λx vG=>Du (bX X.prog X.w) X.A X.xe use Qf acc ce.locals (.error x) vG) e s':=by
 sleep 3;obtain⟨ai,σ,U,s1,I,a,t,H',B,rfl,os,eG,fl,bL,kp,hq⟩:=h;sleep 4;have above:=I.ok.above;have frlt:∀b∈fg X.stack,b<s3.heap.objs.size:=λb hb=>by
  obtain⟨_,o,ho,_⟩:=I.ok.lM.mem (show b∈(X.ki s3 H3 aT ce fp).fs from hb);exact ej ho
 have nL:ce.locals∉fg X.stack:=λz=>absurd (gy (frlt _ z) above)<|nr _;sleep 3;obtain⟨m,⟨oL,es,ep,hoL,hdL,rL⟩,_⟩:=I.hZ;sleep 4;have Lx:=kp.keep ce.locals oL hoL I.free nL;have Lz:=kp.free ce.locals oL hoL I.free;have DE:JW B (X.env::X.bA) a (.ref C) (.ref t) s'.heap:=by rw[<-fJ];exact fl
 have hnote:HF (.ref a) ce=HF (.ref a) X.env:=by
  unfold HF PySem.frameOf;rw[Bb]
 unfold xo;rw[hnote];refine wpAny_looks_onW (show X.A.frames=L _ by rw[<-fJ];exact I3.ok.frames) hf DE λh4 DN hJ=>?_;obtain⟨GX,y_,ff4,tr4⟩:=DN;have goal:∃m,h4.Ns ce.locals m/\ ∀h',FC ce.locals h4 h'-> ∀f_,f_.locals=ce.locals->b_ (bX X.prog X.w) X.A (PySem.passOn "comprehension.variables-let-go" (.ref a) f_:Sem aH) (λ_ _=>e_) X.xe {s' with heap:=h'}:=by
  refine⟨m,⟨oL,es,ep,GX _ _ Lx,hdL,rL⟩,λh5 sb f_ _=>?_⟩;have aL:a≠ce.locals:=λz=>by rw[z,Lx] at y_;cases y_
  have hB5:(Au B _).StaysIn h5:=λb o e=>by
   have e1:=Kt _ e;have ne:b≠ce.locals:=λz=>by
    have:=YL (h:=B) (b:=ce.locals) [ce.locals]<|by simp
    rw[z,this] at e;cases e
   rw[sb.2 b ne];exact GX b o e1
  have nB:∀b,B.get? b=ah->(Au B _).get? b=ah:=λb e=>by
   cases q:(Au B [ce.locals]).get? b with
   |none=>rfl
   |some o=>rw[Kt _ q] at e;cases e
  have ff5:=R0 ff4 nB λb hb=>sb.2 b λz=>nL (by rw[<-z,fJ];exact hb);have WZ:h5.TracedAtW (Au B [ce.locals]) a (.ref C) (.ref t)<|rawInt X.env.locals:=by
   sleep 3;obtain⟨oe,vs,T,oT,ts,he,wX,hd,h1,uO,hTe,hT,hdT,h3⟩:=tr4;sleep 4;have TL:T≠ce.locals:=λz=>by rw[z,Lx] at uO;cases uO
   exact⟨oe,vs,T,oT,ts,(sb.2 a aL).trans he,wX,hd,h1,nB T uO,hTe,(sb.2 T TL).trans hT,hdT,h3⟩
  have tr5':=WZ;sleep 3;obtain⟨oe,vs,T,oT,ts,he,wX,hd,h1,uO,hTe,hT,hdT,h3⟩:=tr5';sleep 4;refine dj<|Ca he hd h1 ?_;have rest:b_ (bX X.prog X.w) X.A (do setFlight (.ref a) f_.frame;throw (.ref a):Sem aH) (λ_ _=>e_) X.xe {s' with heap:=h5}:=by
   refine dj (setFlight_anyW hB5 ff5 WZ λh6 RQ hB6 ff6 tr6 k6=>?_);refine wpAny_throw<|lv _ _ _ (λE2=>?_) J;refine leaves_anyW (show X.A.frames=L _ by rw[<-fJ];exact I3.ok.frames) hf hB6 (nB a y_) ff6 tr6 λh7 fly7 sm7=>?_;have nx:∀b,b∉X.ex:=λb z=>by rw[hx] at z;cases z
   have kY:∀{b:ak}{o:eR},X.gK.heap.get? b=L o->b∉fp/\b≠ce.locals:=λ{b o}e0=>by
    have lt:=ej e0;refine⟨λz=>?_,λz=>?_⟩
    ·rcases(wY b z).2.2.2.1 with q|q
     ·exact nx b q
     ·exact absurd (gy lt q)<|nr _
    ·rw[z] at lt
     exact absurd (gy (gy lt I3.sz) above)<|nr _
   have xp:∀{b:ak}{o:eR},X.gK.heap.get? b=L o->b∉X.fs->b∉fg X.stack:=λ{b o}e0 hb z=>by
    rcases List.mem_cons.mp (I3.B4 b z) with q|q
    ·exact absurd (gy (ej e0) I3.ok.above) (by rw[q];exact nr _)
    ·exact hb q
   have ins:∀b,b∈X.fs->b∈fg X.stack:=λb hb=>by
    rw[fJ];unfold fg;rw[Ag]
    split
    ·exact hb
    ·exact gD _ hb
   have sm:∀b o,b≠ce.locals->s'.heap.get? b=L o->_-> ∃sl,h7.get? b=L {o with slots:=sl}:=λb o ne e0 nf=>by
    obtain⟨sl,e1⟩:=hJ b o e0 nf;have e2:=(sb.2 b ne).trans e1;have e3:=k6 b _ e2 nf;obtain⟨xR,e4⟩:=sm7 b _ e3 nf;exact⟨xR,e4⟩
   refine⟨a,t,H',Au B _,J,os.trans<|I.os.trans I3.os,eG,fly7,λb o e0=>?_,⟨λb o e0 n hb=>?_,λb o e0 n hb nf=>?_,λb o e0 n=>?_,λb o e0 hb=>?_,λb xs e0=>?_,λb o u e0=>?_,λb ps e0=>?_⟩,hq⟩
   ·refine(bL b o e0).vO (λb' u uL q=>FZ _ q λz=>?_) (λ_ q=>q) λ_ _ q=>q
    have z:=by simpa using z
    rcases uL with r|r
    ·rw[<-z,r,e0] at Lz;cases Lz
    ·rw[z,Lz] at r;cases r
   ·have e1:=I3.base.keep b o e0 n hb<|nx b
    have n1:=I3.base.free b o e0 n<|nx b;have e2:=I.base.keep b o e1 n1 (xp e0 hb) (kY e0).1;have n2:=I.base.free b o e1 n1 (kY e0).1;exact FZ _ (kp.keep b o e2 n2<|xp e0 hb)<|by simpa using(kY e0).2
   ·obtain⟨I0,e1⟩:=I3.base.jr b o e0 n hb<|nx b
    have n1:=I3.base.free b o e0 n<|nx b;obtain⟨xR,e2⟩:=I.base.jr b _ e1 n1 (ins b hb) (kY e0).1;have n2:=I.base.free b _ e1 n1 (kY e0).1;obtain⟨E9,e3⟩:=kp.jr b _ e2 n2 (ins b hb) nf;obtain⟨sl4,e4⟩:=sm b {o with slots:=E9} (kY e0).2 e3 nf;exact⟨sl4,e4⟩
   ·obtain⟨o1,e1⟩:=I3.base.there b o e0<|nx b
    have n1:=I3.base.free b o e0 n<|nx b;obtain⟨o2,e2⟩:=I.base.there b o1 e1 (kY e0).1;exact kp.free b o2 e2<|I.base.free b o1 e1 n1 (kY e0).1
   ·obtain⟨o1,e1⟩:=I3.base.there b o e0<|nx b
    obtain⟨o2,e2⟩:=I.base.there b o1 e1 (kY e0).1;obtain⟨o3,e3⟩:=kp.there b o2 e2<|xp e0 hb;exact⟨o3,FZ _ e3<|by simpa using(kY e0).2⟩
   ·exact kp.mU b xs (I.base.mU b xs<|I3.base.mU b xs e0)
   ·exact kp.lL b o u (I.base.lL b o u<|I3.base.lL b o u e0)
   ·obtain⟨m1,e1⟩:=I3.base.mQ b ps e0
    obtain⟨m2,e2⟩:=I.base.mQ b _ e1;obtain⟨m3,e3⟩:=kp.mQ b _ e2;exact⟨m1++_,by rw[e3,JP,JP]⟩
  first
   |exact rest
   |exact dj<|gg rest
 cases use<;>exact goal
end
end L2
namespace L2
open PySem PySem.Spec PyProof.Rows
theorem OW{t:Sem α}{Q Q':α->c_->Prop}(hE:∀e s,E e s->E' e s)(h:b_ aJ A t Q E s)(hQ:∀a s,Q a s->Q' a s):b_ aJ A t Q' E' s:=lr h hQ hE
section
variable{X:Cx}
theorem S5{σ:St}
 (DU:X.ex=[]) (fJ:X.stack=X.env::X.bA) (hf:X.env.frame=L X.env.locals) (lv:Cp C X E) (hc:X.kj=ao) (hN:X.N.Nodup) (I:Inv X ai σ H s) (hi:PI X tg ik wi) (ok:vY X.N X.env.scope aT own)
 (hg:∀s H C1 cl fp,PG (X.iG C E s H aT (jE aT cl C1 X.env) fp) tg g) (ht:∀s H C1 cl fp,Ap (X.iG C E s H aT (jE aT cl C1 X.env) fp) lQ tt)
 (he:∀s H C1 cl fp,PE (X.iG C E s H aT (jE aT cl C1 X.env) fp) elt te) (hs:∀x,DF ik X.env x=pure x)
 (h:mP wi g tt te (own.map (·.2)) σ H Q)
 (LB:∀D C1 s' m H',Inv X ai σ H' s'->Q (.ref D) H'->s'.heap.Ns C1 m->lA X ai H' C1->Du (bX X.prog X.w) X.A X.xe use Qf (.ref D) C1 (.ok .next) s'):
 b_ (bX X.prog X.w) X.A (comprehension (.ListComp elt [⟨tg,ik,lQ,0⟩] aT pos) aT X.env oO (newList []) aM (dg ik X.env) use) Qf X.xe s:=by
 have wZ:∀y∈aT.names,y.2= .free-> ∃c,X.env.cells.lookup y.1=L c:=λy hy e=>by
  rcases ok.free y hy e with k|k
  ·exact I.ok.uK _<|.inl k
  ·exact I.ok.uK _<|.inr k
 refine wpAny_comprehension_free J hs (Ra wZ) ok.kind (λy hy e=>by rw[ok.Aa y hy,e])
  (cn (hi ai s σ H _ I h) λxv s1 hx=>cn hx λHn s2 h2=>?_)
 sleep 3;obtain⟨it,fp,tn,cG,H2,e,I2,T,mM,f2,q⟩:=h2;sleep 4;subst e;refine Fv (TX ?_) (by show 0<=bI;decide);generalize hD:s2.heap.objs.size=D;have Ly:=I2.bL.fresh<|CA hD;sleep 3;obtain⟨W,⟨m0,w0⟩,turn⟩:=q D Ly;sleep 4;generalize DS:({s2 with heap:=s2.heap.push {cls:=.type "list",data:=.seq ([]:af aH).toArray}})=s3;have I3:Inv X ai σ (aC H2 D<|.lst []) s3:=by
  rw[<-DS];refine I2.kR (λb o e=>iS _ e) (CA hD) ⟨eM _,[],0,.nil,?_⟩;rw[<-hD];exact pf _ J
 have h3:s3.heap=s2.heap.push {cls:=.type "list",data:=.seq [].toArray}:=by rw[<-DS]
 have sz:∀b∈fp,b<s2.heap.objs.size:=λb hb=>by
  obtain⟨o,e,_⟩:=T.obj _ _ mM b hb;exact ej e
 have f3:∀b∈fp,lA X ai (aC H2 D<|.lst []) b/\b<s3.heap.objs.size:=λb hb=>by
  have d9:=sz b hb;refine⟨⟨?_,(f2 b hb).2⟩,by rw[h3,ph];exact Kg d9⟩;rw[bJ (by rw[<-hD];exact j_ d9)];exact(f2 b hb).1
 have B3:tn 0 s3.heap:=T.keep _ _ _ mM λb _ o e=>by rw[h3];exact iS _ e
 have I4:=(QY I3 ok hN f3).iG (C:=C) (E:=E);have pg:=hg s3 (aC H2 D<|.lst []) s3.heap.objs.size (iH (s3.heap.objs.size+1) aT.names<|jD X.env.cells aT.names []) fp;have pt:=ht s3 (aC H2 D<|.lst []) s3.heap.objs.size (iH (s3.heap.objs.size+1) aT.names<|jD X.env.cells aT.names []) fp;have pe:=he s3 (aC H2 D<|.lst []) s3.heap.objs.size (iH (s3.heap.objs.size+1) aT.names<|jD X.env.cells aT.names []) fp;show uD _ _ (.compStart _ 0 _ _<|jE aT (iH _ aT.names _) s3.heap.objs.size X.env) _ {s3 with heap:=xK _ aT.names};have Ed:=λb hb=>(f3 b hb).1.1;generalize Bb:jE aT _ s3.heap.objs.size X.env=ce at I4 pg pt pe⊢;have cL:ce.locals=s3.heap.objs.size:=by subst Bb;rfl
 generalize hH3:aC H2 D (.lst [])=H3 at I3 I4 pg pt pe w0 Ed f3;generalize LU:({s3 with heap:=xK (s3.heap.push {cls:=.type "dict",data:=.dict #[]}) aT.names})=s4 at I4⊢;have Fi:tn 0 s4.heap:=T.keep _ _ _ B3 λb _ o e=>by rw[<-LU];exact Im _ _ _ _<|iS _ e
 have rC:∀{aS:St}{H':Hp}{s':c_},Inv (X.iG C E s3 H3 aT ce fp) [] aS H' s'->(∀b∈fp,H' b=ah)-> ∀b∈fp,lA (X.iG C E s3 H3 aT ce fp) [] H' b:=λ{aS H' s'}I' hn b hb=>
  ⟨hn b hb,(I'.ok.AS b hb).1,I'.ok.AU b hb,.inl hb,λx c e=>(I'.ok.AS b hb).2 x c e,λp hp=>absurd (show p∈[]++[] from hp)<|by simp⟩
 have hcf:ce.frame=X.env.frame:=by rw[<-Bb];rfl
 have Ld:∀e s',(X.iG C E s3 H3 aT ce fp).xe e s'->xo _ X.A ce (λx vG=>Du _ X.A X.xe use Qf _ s3.heap.objs.size _ vG) e s':=λe s' z=>by
  have q:=ZL (use:=use) (Qf:=Qf) (acc:=.ref D) DU fJ hf lv I3 hcf (λb hb=>(f3 b hb).1) z;rw[cL] at q;exact q
 have D7:uD (bX X.prog X.w) X.A (.compLoop (.ListComp elt [⟨tg,ik,lQ,0⟩] aT pos) 0 (.ref it) (.ref D) ce) (Du (bX X.prog X.w) X.A X.xe use Qf (.ref D) s3.heap.objs.size) s4:=by
  refine Rb (λn s'=>∃i H',Inv (X.iG C E s3 H3 aT ce fp) [] _ H' s'/\tn i s'.heap/\(∀b∈fp,H' b=ah)/\W i n H') ?_ m0 ⟨0,H3,I4,Fi,Ed,w0⟩
  rintro n s5 ⟨i,H5,I5,st5,n5,w5⟩
  rcases turn i n H5 w5 with⟨me,qq⟩|⟨go,Nx,hNx,step⟩
  ·have td:=T.done (X.iG C E s3 H3 aT ce fp) J J J hc i [] s5 _ H5 (λ_ _=>e_) I5 (rC I5 n5) st5 me
   refine vQ td λr s6⟨hr,I6⟩=>?_;subst hr;have I7:=I3.Q6 I6.os I6.base I6.bL I6.eG λb hb=>⟨(f3 b hb).1.2.2.2.1,(f3 b hb).1.2.1,(f3 b hb).1.2.2.2.2.1,(f3 b hb).1.2.2.2.2.2⟩;have nC:=by
    have z:=I6.free;rw[cL] at z;exact z
   sleep 3;obtain⟨m,hn,_⟩:=I6.hZ;sleep 4;rw[cL] at hn;exact LB D s3.heap.objs.size s6 m H5 I7 qq hn<|I3.yS (dQ _) nC
  ·have ti:=T.item (X.iG C E s3 H3 aT ce fp) J J J hc i [] s5 _ H5 (λ_ _=>e_) I5 (rC I5 n5) st5 go
   refine vQ ti λr s6⟨u,hr,h6⟩=>?_;subst hr;refine vQ h6 λ_ s7⟨x,H7,I7,r7,y7,st7,n7⟩=>?_;have JZ:=I7.M9 (rC I7 n7)<|T.obj _ _ st7;refine OW Ld (pg _ s7 _ H7 x u _ JZ r7<|step x H7 y7) λ_ s8⟨vX,H8,I8,hw8,q8⟩=>?_;refine OW Ld (pt _ s8 vX H8 _ I8 q8) λb s9⟨H9,I9,q9⟩=>?_;have dr:∀{s':c_}{H':Hp},Inv (X.iG C E s3 H3 aT ce fp) ([]++EE fp s7.heap) vX H' s'->Nx H'-> ∃m,m<n/\ ∃i H',Inv (X.iG C E s3 H3 aT ce fp) [] _ H' s'/\tn i s'.heap/\(∀b∈fp,H' b=ah)/\W i m H':=λ{s' H'}I' nx=>by
    obtain⟨m',hm,w'⟩:=hNx H' nx;have ED:∀b∈fp,∀o,s7.heap.get? b=L o->s'.heap.get? b=L o/\H' b=ah:=λb hb o e=>
     let z:=I'.jn _ (ud _ (ud _<|Hy hb e))
     ⟨z.1,z.2.1⟩
    have hl:(da σ (own.map (·.2))).length=vX.length:=by rw[<-hw8,JJ]
    refine⟨m',hm,i+1,H',(I'.Fp).tN hl λj v e=>?_,T.keep _ _ _ st7 λb hb o e=>(ED b hb o e).1,λb hb=>?_,w'⟩
    ·rw[<-hw8] at e
     exact(JK e).1
    ·obtain⟨o,e,_⟩:=T.obj _ _ st7 b hb
     exact(ED b hb o e).2
   cases b with
   |false=>
    exact dr I9 q9
   |true=>
    refine OW Ld (pe _ s9 vX H9 _ I9 q9) λz BQ⟨yv,yg,I10,r10,acc,hD10,hz10,nx⟩=>?_;exact QG (X:=X.iG C E s3 H3 aT ce fp) I10 hD10 hz10 r10 λs11 JY=>dr JY nx
 exact ZZ D7<|T.vK X.A 0 _ _ _ Fi D7
theorem oM(DU:X.ex=[])(fJ:X.stack=X.env::X.bA)(hf:X.env.frame=L X.env.locals)(lv:Cp C X E)(hc:X.kj=ao)(hN:X.N.Nodup)(hi:PI X tg ik wi)(ok:vY X.N X.env.scope aT own)
 (hg:∀s H C1 cl fp,PG (X.iG C E s H aT (jE aT cl C1 X.env) fp) tg g) (ht:∀s H C1 cl fp,Ap (X.iG C E s H aT (jE aT cl C1 X.env) fp) lQ tt)
 (he:∀s H C1 cl fp,PE (X.iG C E s H aT (jE aT cl C1 X.env) fp) elt te) (hs:∀x,DF ik X.env x=pure x:=by intro _;rfl):
 PE X (.ListComp elt [⟨tg,ik,lQ,0⟩] aT pos) (mP wi g tt te (own.map (·.2))):=by
 intro ai s σ H Q I h;refine S5 DU fJ hf lv hc hN I hi ok hg ht he hs h λD C1 s' m H' I' q hn f=>⟨m,hn,λA9 sb=>?_⟩;sleep 3;obtain⟨f0,f1,f2,f3,f4,f5⟩:=f;sleep 4;exact⟨.ref D,H',I'.turned (λb o hb e=>(sb.2 b hb).trans e) f0 f1 f3 f4 f5,J,q⟩
theorem BJ(DU:X.ex=[])(fJ:X.stack=X.env::X.bA)(hf:X.env.frame=L X.env.locals)(lv:Cp C X E)(hc:X.kj=ao)(hN:X.N.Nodup)(hy:X.N[i]? =L y)(SI:X.env.scope.names.lookup y=L .local)
 (hsw:z7 (.ListComp elt [⟨tg,ik,lQ,0⟩] aT pos) (L<|.Name y py) spos.line X.env=pure ao) (hi:PI X tg ik wi) (ok:vY X.N X.env.scope aT own)
 (hg:∀s H C1 cl fp,PG (X.iG C E s H aT (jE aT cl C1 X.env) fp) tg g) (ht:∀s H C1 cl fp,Ap (X.iG C E s H aT (jE aT cl C1 X.env) fp) lQ tt)
 (he:∀s H C1 cl fp,PE (X.iG C E s H aT (jE aT cl C1 X.env) fp) elt te) (hs:∀x,DF ik X.env x=pure x:=by intro _;rfl):
 PS X (.Assign [.Name y py] (.ListComp elt [⟨tg,ik,lQ,0⟩] aT pos) spos) (j7 (mP wi g tt te (own.map (·.2)))<|eI i):=by
 intro ai s σ H D I h;rw[exec_Assign_Name_used _ _ _ _ hsw];refine dj (Xl<|dj ?_);refine dj (cn (S5 DU fJ hf lv hc hN I hi ok hg ht he hs h λcN C1 s' m H' I' q hn f=>?_) λ_ s' hq=>gg<|gg hq);refine wpAny_assign_Name (WD (v:=V.ref cN) I' hN hy (.inl SI) J (λs2 I2⟨a,sb,ha⟩=>?_)<|.inr SI);sleep 3;obtain⟨f0,f1,f2,f3,f4,f5⟩:=f;sleep 4;have haC:C1≠a:=by
  rcases ha with z|z
  ·rw[z];exact f1
  ·exactλe=>f4 y a z e.symm
 refine⟨m,hn.sameBut sb haC,λh3 qA=>?_⟩;exact⟨_,H',I2.turned (λb o hb e=>(qA.2 b hb).trans e) f0 f1 f3 f4 f5,q⟩
end
end L2
namespace L2
open PySem PySem.Spec PyProof.Rows
open Bw (bf dY)
def cf{α:Type}(R:V->α->Prop):af V->af α->Prop
 |[],[]=>jb
 |v::vs,x::xs=>R v x/\cf R vs xs
 |_,_=>e_
section
variable{α β:Type}{R R':V->α->Prop}
theorem cf.bH:∀{vs:af V}{xs:af α},cf R vs xs->vs.length=xs.length
 |[],[],_=>rfl
 |_::_,_::_,h=>gM (·+1)<|cf.bH h.2
theorem cf.imp(f:∀v x,R v x->R' v x):∀{vs:af V}{xs:af α},cf R vs xs->cf R' vs xs
 |[],[],_=>trivial
 |_::_,_::_,h=>⟨f _ _ h.1,cf.imp f h.2⟩
theorem cf.get:∀{vs:af V}{xs:af α},cf R vs xs-> ∀{i:ag}{v:V},vs[i]? =L v-> ∃x,xs[i]? =L x/\R v x
 |[],[],_,i,v,e=>by simp at e
 |_::_,x::_,h,0,v,e=>by cases e;exact⟨x,J,h.1⟩
 |_::_,_::_,h,i+1,v,e=>cf.get h.2 e
theorem cf.sF:∀{vs:af V}{xs:af α},cf R vs xs-> ∀{i:ag}{x:α},xs[i]? =L x-> ∃v,vs[i]? =L v/\R v x
 |[],[],_,i,x,e=>by simp at e
 |v::_,_::_,h,0,x,e=>by cases e;exact⟨v,J,h.1⟩
 |_::_,_::_,h,i+1,x,e=>cf.sF h.2 e
theorem cf.append:∀{vs us:af V}{xs ys:af α},cf R vs xs->cf R us ys->cf R (vs++us) (xs++ys)
 |[],_,[],_,_,h=>h
 |_::_,_,_::_,_,h,g=>⟨h.1,cf.append h.2 g⟩
theorem cf.snoc(h:cf R vs xs)(g:R v x):cf R (vs++[v])<|xs++[x]:=h.append ⟨g,ck⟩
theorem cf.set:∀{vs:af V}{xs:af α}i{v:V}{x:α},cf R vs xs->R v x->cf R (vs.set i v) (xs.set i x)
 |[],[],_,_,_,_,_=>trivial
 |_::_,_::_,0,_,_,h,g=>⟨g,h.2⟩
 |_::_,_::_,i+1,_,_,h,g=>⟨h.1,cf.set i h.2 g⟩
theorem cf.drop:∀{vs:af V}{xs:af α}i,cf R vs xs->cf R (vs.drop i) (xs.drop i)
 |[],[],0,_=>trivial
 |[],[],_+1,_=>trivial
 |_::_,_::_,0,h=>h
 |_::_,_::_,i+1,h=>cf.drop i h.2
theorem cf.take:∀{vs:af V}{xs:af α}i,cf R vs xs->cf R (vs.take i) (xs.take i)
 |[],[],0,_=>trivial
 |[],[],_+1,_=>trivial
 |_::_,_::_,0,_=>trivial
 |_::_,_::_,i+1,h=>⟨h.1,cf.take i h.2⟩
theorem cf.MT:∀{vs:af V}{xs:af α},vs.length=xs.length->(∀(i:ag)v x,vs[i]? =L v->xs[i]? =L x->R v x)->cf R vs xs
 |[],[],_,_=>trivial
 |[],_::_,h,_=>nomatch h
 |_::_,[],h,_=>nomatch h
 |_::_,_::_,h,f=>⟨f 0 _ _ J J,cf.MT (by simpa using h) λi v x h1 h2=>f (i+1) v x h1 h2⟩
theorem cf.at_(h:cf R vs xs){i:ag}(h1:vs[i]? =L v)(h2:xs[i]? =L x):R v x:=by
 obtain⟨y,e,r⟩:=h.get h1;rw[h2] at e
 cases e
 exact r
end
def cw(H H':Hp):Prop:=(∀b xs,H b=L (.tup xs)->H' b=L (.tup xs))/\ ∀b o u,H b=L (.iX o u)->H' b=L (.iX o u)
def fO(H H':Hp):Prop:=cw H H'/\ ∀b C dx fs,H b=L (.ins C dx fs)->H' b=L (.ins C dx fs)
theorem cw.trans(a:cw H U)(b:cw U H2):cw H H2:=⟨λc x h=>b.1 c x<|a.1 c x h,λc x u h=>b.2 c x u<|a.2 c x u h⟩
theorem fO.trans(a:fO H U)(b:fO U H2):fO H H2:=⟨a.1.trans b.1,λc x u f h=>b.2 c x u f<|a.2 c x u f h⟩
theorem az.i(s:az H H'):fO H H':=⟨⟨λb x h=>s _ _ h,λb o u h=>s _ _ h⟩,λb C dx fs h=>s _ _ h⟩
theorem cw.tup{K:aq}(e:cw H H')(h:cH K H a xs):cH K H' a xs:=by
 rcases h with(h|⟨o,h⟩)|h
 ·exact .inl (.inl (e.1 _ _ h))
 ·exact .inl (.inr ⟨o,e.2 _ _ _ h⟩)
 ·exact .inr h
def Kk:au HO->Prop
 |some (.tup _)=>e_
 |some (.iX _ _)=>e_
 |_=>jb
def Ki:au HO->Prop
 |some (.ins _ _ _)=>e_
 |x=>Kk x
theorem Ki.t(h:Ki x):Kk x:=by
 cases x with
 |none=>trivial
 |some o=>cases o<;>first|exact h|trivial
theorem cw.aC(h:Kk<|H p):cw H<|aC H p o:=⟨λb xs e=>by
 rw[bJ λz=>by rw[z] at e;rw[e] at h;exact h];exact e,λb q u e=>by
 rw[bJ λz=>by rw[z] at e;rw[e] at h;exact h];exact e⟩
theorem fO.aC(h:Ki<|H p):fO H<|aC H p o:=⟨cw.aC h.t,λb C dx fs e=>by
 rw[bJ λz=>by rw[z] at e;rw[e] at h;exact h];exact e⟩
def mj(R:bE α):Prop:=∀H H' v x,cw H H'->R H v x->R H' v x
def lD(R:bE α):Prop:=∀H H' v x,fO H H'->R H v x->R H' v x
section
variable{α β:Type}{R:bE α}
theorem mj.up(m:mj R)(s:cw H H')(h:R H v x):R H' v x:=m _ _ _ _ s h
theorem lD.up(m:lD R)(s:fO H H')(h:R H v x):R H' v x:=m _ _ _ _ s h
theorem mj.i(m:mj R):lD R:=λH H' v x s h=>m H H' v x s.1 h
theorem lD.m(m:lD R):cY R:=λH H' v x s h=>m H H' v x s.i h
inductive RL(K:aq)(R:bE α)(H:Hp)(v:V)(xs:af α):Prop
 |mk:∀p vs,v= .ref p->SqL K H p vs->cf (R H) vs xs->RL K R H v xs
inductive RT(K:aq)(R:bE α)(H:Hp)(v:V)(xs:af α):Prop
 |mk:∀p vs,v= .ref p->cH K H p vs->cf (R H) vs xs->RT K R H v xs
theorem cE{K:aq}(m:cY R):cY<|RL K R:=λH H' v xs s dm=>by obtain⟨p,vs,e,h,a⟩:=dm;exact⟨p,vs,e,s.seq h,a.imp λv x=>m H H' v x s⟩
theorem zp{K:aq}(m:cY R):cY<|RT K R:=λH H' v xs s dW=>by obtain⟨p,vs,e,h,a⟩:=dW;exact⟨p,vs,e,s.tup h,a.imp λv x=>m H H' v x s⟩
theorem Tq{K:aq}(m:mj R):mj<|RT K R:=λH H' v xs s⟨p,vs,e,h,a⟩=>⟨p,vs,e,s.tup h,a.imp λv x=>m H H' v x s⟩
end
section
variable{α β:Type}{K:aq}{C:ak}{R:bE α}{R':bE β}{Hb Hc H U:Hp}{r:au α}{Q:VK}{E:XK}{σ:St}
theorem bQ.bindB(k:bQ C R Hb (rb.bind f) Q E)(sb:az Hb Hc)(h:NT C E R' rb σ Hc te)
 (hq:∀y v U,az Hc U->rb=L y->R' U v y->bQ C R Hb (f y) Q E->Q' v U):te σ Hc Q':=by
 refine h Hc Q' (az.refl Hc) ⟨λH' v y s e q=>hq y v H' s e q ?_,λH' s e=>?_⟩
 ·have k':=k
  rw[e] at k';exact k'
 ·refine k.no H' (sb.trans s) ?_
  rw[e];rfl
theorem bQ.gX(k:bQ C R Hb r Q E)(sb:az Hb Hc)(h:NT C E R r σ Hc te):te σ Hc Q:=h Hc Q (az.refl Hc)<|k.at_ sb
inductive tL(C D:ak)(A:gk τ)(R:bE α)(f:τ->au α)(vs:af V)(H:Hp)(Q:VK)(E:XK):Prop
 |mk:∀(Hb:Hp)(p dx:ak)(t:τ)(r:af V),vs= .ref p::r->H p=L (.ins D dx [])->az Hb H->Hb p=ah->A Hb r t->((∀H' y,az Hb H'->f t=L y->R H' (.ref p) y->Q .cu H'))->(∀H',az Hb H'->f t=ah->E (.ref C) ah H')->tL C D A R f vs H Q E
theorem zB{A:gk τ}{t:au τ}{f:τ->au α}(h:NA C E A t σ H ta):NT C E R (t.bind f) σ H<|OQ D (tL C D A R f) [] E ta:=λU Q s k=>
 h U _ s ⟨λH2 vs y s2 e q=>λx dx n0 n1 n2=>by
  have k2:bQ C R H2 (f y) Q E:=(k.at_ s2).eq (by rw[e];rfl)
  refine⟨H2,x,dx,y,vs,by rw[pj],bw,(az.new n1).trans (az.new<|by rw[bJ<|dB n2];exact n0),n0,q,λH' z s' e' r'=>⟨J,k2.ok H' _ z s' e' r'⟩,k2.no⟩,λH2 s2 e=>k.no H2 s2 (by rw[e];rfl)⟩
def ur(R:bE α):Prop:=∀D H a b v z,H D=L (.lst a)->R H v z->R (aC H D<|.lst b) v z
theorem lD.mO(m:lD R):ur R:=λD H a b v z h r=>m _ _ _ _ (fO.aC (by rw[h];trivial)) r
theorem BX{f:β->au α}{ys:af β}(h:ys[j]? =L y):bf f (ys.take<|j+1)=(bf f<|ys.take j).bind λzs=>(f y).map λz=>zs++[z]:=by
 have hj:j<ys.length:=by
  rcases FO j ys.length with z|z
  ·exact z
  ·rw[Cr z] at h;cases h
 rw[Yd,h,Bw.VT]
 congr 1
 funext zs
 show(((f y).bind λb=>L [b])).map _=_
 cases f y<;>rfl
structure ff(D:ak)(H0:Hp)(R:bE α)(f:β->au α)(ys:af β)(j:ag)(Hc:Hp):Prop where
 same:az H0 Hc
 ex:∃d8 zs,Hc D=L (.lst d8)/\cf (R Hc) d8 zs/\bf f (ys.take j)=L zs
theorem ff.start{ys:af β}(hD:H0 D=ah):ff D H0 R f ys 0 (aC H0 D<|.lst []):=⟨az.new hD,[],[],bw,ck,by rw[m9];rfl⟩
theorem ff.step{y:β}(st:ur R)(m:cY R)(hD:H0 D=ah)(dJ:ys.length<=bI)(k:bQ C (RL K R) H0 (bf f ys) Q E)(hy:ys[j]? =L y)(I:ff D H0 R f ys j Hc)(h:NT C E R (f y) σ Hc te):te σ Hc λv H4=>∃acc,H4 D=L (.lst acc)/\acc.length<bI/\ff D H0 R f ys (j+1) (aC H4 D (.lst<|acc++[v])):=by
 sleep 3;obtain⟨sm,d8,zs,e1,a1,e2⟩:=I;sleep 4;have hj:j<ys.length:=by
  rcases FO j ys.length with z|z
  ·exact z
  ·rw[Cr z] at hy;cases hy
 refine h Hc _ (az.refl Hc) ⟨λH' v z s e q=>⟨d8,s _ _ e1,?_,?_⟩,λH' s e=>?_⟩
 ·rw[a1.bH,Bw.iQ e2,kJ]
  lia
 ·have e3:=s _ _ e1
  refine⟨λb o e4=>?_,d8++[v],zs++[z],bw,?_,?_⟩
  ·rw[bJ<|dy e4 hD]
   exact s _ _<|sm _ _ e4
  ·exact(a1.snoc (v:=v) (x:=z)|>λ_=>((a1.imp λv x h=>st D H' d8 _ v x e3<|m _ _ _ _ s h).snoc<|st D H' d8 _ v z e3 q))
  ·rw[BX hy,e2,e]
   rfl
 ·exact k.no H' (sm.trans s) (Bw.BV e<|j' hy)
theorem ff.done{ys:af β}(k:bQ C (RL K R) H0 (bf f ys) Q E)(I:ff D H0 R f ys ys.length Hc):Q (.ref D) Hc:=by
 obtain⟨sm,d8,zs,e1,a1,e2⟩:=I;rw[mi] at e2;exact k.ok Hc _ zs sm e2 ⟨D,d8,J,SqL.of e1,a1⟩
theorem xA(st:ur R)(m:cY R)(m':cY R')(h0:NT C E (RL K R') (L ys) σ H tl)(dJ:ys.length<=bI)
 (hw:∀v,da ((da σ vs).set i<|L v) vs=da σ vs) (he:∀U v y,az H U->y∈ys->R' U v y->NT C E R (f y) ((da σ vs).set i<|L v) U te):
 NT C E (RL K R) (bf f ys) σ H<|mP (zf K tl) (eI i) oZ te vs:=λU Q s k=>by
 refine(h0.at_ s).go λv H2 s2 q=>?_;obtain⟨p,us,rfl,hp,ha⟩:=q;refine⟨p,J,⟨us,hp⟩,λD hD=>?_⟩;have k2:=k.at_ s2;refine Hs (ff D H2 R f ys) (ff.start hD) (λj Hc _ I=>I.same.seq hp) (λj x Hc hx I=>?_) λHc I=>?_
 ·obtain⟨y,hy,ry⟩:=ha.get hx
  refine⟨hw x,?_⟩;exact ff.step st m hD dJ k2 hy I<|he Hc x y (s.trans<|s2.trans I.same) (j' hy)<|m' _ _ _ _ I.same ry
 ·rw[ha.bH] at I
  exact ff.done k2 I
theorem Uk{i n:ag}(st:ur R)(m:cY R)(h0:NA C E (aE (λ_ v j=>v= .int j) cg) (L (n,())) σ H ta)(dJ:n<=bI)
 (hw:∀v,da ((da σ vs).set i<|L v) vs=da σ vs) (he:∀U j,az H U->j<n->NT C E R (f j) ((da σ vs).set i (L<|.int j)) U te):
 NT C E (RL K R) (bf f<|iC n) σ H<|mP (Hi ta) (eI i) oZ te vs:=λU Q s k=>by
 refine h0 U _ s ⟨λH2 us y s2 e q=>?_,λH2 s2 e=>nomatch e⟩
 cases e
 obtain⟨v,r,rfl,e1,e2⟩:=q;subst e1;subst e2;have hz:bI<2^62:=by decide
 refine⟨n,J,(by lia),(by lia),λD hD=>?_⟩;have k2:=k.at_ s2;rw[kI];refine Ht (ff D H2 R f<|iC n) (ff.start hD) (λj Hc hj I=>?_) λHc I=>?_
 ·refine⟨hw _,?_⟩
  rw[wc];exact ff.step st m hD (by rw[wm];exact dJ) k2 (by simp[hj]) I<|he Hc j (s.trans<|s2.trans I.same) hj
 ·have I':ff D H2 R f (iC n) (iC n).length Hc:=by rw[wm];exact I
  exact ff.done k2 I'
end
end L2
namespace L2
open PySem PySem.Spec PyProof.Rows
theorem ext_tup(l:ak)(gH:jv aH)(n:ag)(b:ak)(dd:au ak)(DW:jv aH)(n2:ag)(sl:jv<|au aH)(SE:¬(!gH.isEmpty&&JR (gH.size+DW.size))=ao)(SF:gH.size<=bI)(Hd:gH.size+DW.size<=bI+1):Meets (Builtin.«list.extend» ⟨[.ref l,.ref b],[]⟩) λ_ R s=>s.heap.get? l=L {cls:=.type "list",dict:=ah,data:=.seq gH n,slots:= #[]}/\s.heap.get? b=L {cls:=.type "tuple",dict:=dd,data:=.seq DW n2,slots:=sl}/\R (.ok<|.ret Dd) {s with heap:=s.heap.update l (Kl λx=>x++DW),toks:=s.toks}:=.of_wp λprog w A R s h=>by
  obtain⟨hp,g,d,tk,os⟩:=s;obtain⟨hl,hb,h⟩:=h;have f1:=AutoSeq1.idx_int;have f2:=AutoSeq1.sub_tuple_tuple;have f3:=AutoSeq1.sub_list_list;have f4:=AutoSeq1.sub_tuple_list;have f5:=AutoSeq1.sub_list_tuple;
  have hz':(gH++DW).size<=bI+1:=by rw[Array.size_append];exact Hd
  wp_walk using(wpAny_updateSeq hl J),Xs hl,Xs hb;exact⟨_,J,h⟩
inductive Nd(K:aq)(x:V)(vs:af V)(H:Hp)(Q:VK):Prop
 |mk:∀l b xs zs,x= .ref l->vs=[.ref b]->H l=L (.lst xs)->cH K H b zs->xs.length+zs.length<=bI->Q .cu (aC H l (.lst<|xs++zs))->Nd K x vs H Q
theorem Tz:Ka X "list.extend"<|Nd X.K:=by
 intro ai s σ H x vs v us Q I rx rv h;obtain⟨l,b,xs,zs,rfl,rfl,hH,hB,hz,q⟩:=h
 cases rx
 obtain⟨u,rfl,ru⟩:=rv.one
 cases ru
 sleep 3;obtain⟨z,aZ,n,r,hl,e⟩:=I.Bq hH;sleep 4;sleep 3;obtain⟨mF,r2,⟨⟨dh,dd,data,sl⟩,e2,hc,n2,hd⟩,z2⟩:=I.tuple hB;sleep 4;subst hc hd;have ij:=r2.length;have nR:aZ.toArray.size+mF.toArray.size<=bI:=by rw[gx,gx];lia
 have LM:¬(!aZ.toArray.isEmpty&&JR (aZ.toArray.size+mF.toArray.size))=ao:=by
  rw[T8 nR,Xu];exact vZ
 refine Q7 P' ⟨_,e,J⟩ XG (XF _ _)
  (ext_tup l aZ.toArray n b dd mF.toArray n2 sl LM (by rw[gx];lia)<|by lia) ⟨e,e2,?_⟩
 refine⟨.cu,_,I.Md hH e (by simp) (r.append r2) ?_,J,q⟩;rw[iT];omega
end L2
namespace L2
open PySem PySem.Spec PyProof.Rows
open Bw (bf dY)
theorem RZ{K:aq}{g:TG}{tb:TS}{D:Ends}(hn:xs.length=ys.length)(Pv:ag->St->Hp->Prop)(h0:Pv 0 σ H)(hl:∀i σ H,i<=xs.length->Pv i σ H->SqL K H a xs/\SqL K H b ys)
 (hs:∀i x y T σ H,xs[i]? =L x->ys[i]? =L y->Pv i σ H->H T=ah->g (.ref T) σ (aC H T<|.tup [x,y]) λde H2=>tb {D with nx:=Pv<|i+1,ct:=Pv<|i+1,bk:=D.nx} de H2) (hd:∀σ H,Pv xs.length σ H->D.nx σ H):
 ∃W:ag->ag->St->Hp->Prop,(∃m,W 0 m σ H)/\ ∀i m σ H,W i m σ H->((Co K a b).me i H/\D.nx σ H)\/((Co K a b).go i H/\ ∃N,(∀aS H',N aS H'-> ∃m',m'<m/\W (i+1) m' aS H')/\ ∀x H',(Co K a b).tP i H x H'->g x σ H' λde H2=>tb {D with nx:=N,ct:=N,bk:=D.nx} de H2):=by
 refine⟨λi m σ H=>m=xs.length-i/\i<=xs.length/\Pv i σ H,⟨xs.length,by simp,eM _,h0⟩,?_⟩
 rintro i m σ H ⟨rfl,hi,p⟩
 obtain⟨q1,q2⟩:=hl i σ H hi p;by_cases d9:i<xs.length
 ·have hlt2:=by omega
  refine .inr ⟨⟨xs,ys,xs[i],ys[i],q1,q2,by simp[d9],by simp[hlt2]⟩,Pv<|i+1,λaS H' p'=>⟨xs.length-(i+1),(by lia),J,d9,p'⟩,λx H' y=>?_⟩;obtain⟨T,u,v,rfl,hT,rfl,h1,h2⟩:=y;exact hs i u v T σ H (h1 xs q1) (h2 ys q2) p hT
 ·have e:i=xs.length:=by lia
  subst e;exact .inl ⟨⟨xs,ys,q1,q2,.inl<|dQ _⟩,hd σ H p⟩
theorem Lh{K:aq}{g:TG}{tb:TS}{D:Ends}(Pv:ag->St->Hp->Prop)(h0:Pv 0 σ H)(hl:∀i σ H,i<=xs.length->Pv i σ H->SqL K H a xs)
 (hs:∀i x T σ H,xs[i]? =L x->Pv i σ H->H T=ah->g (.ref T) σ (aC H T<|.tup [.int i,x]) λde H2=>tb {D with nx:=Pv<|i+1,ct:=Pv<|i+1,bk:=D.nx} de H2) (hd:∀σ H,Pv xs.length σ H->D.nx σ H):
 ∃W:ag->ag->St->Hp->Prop,(∃m,W 0 m σ H)/\ ∀i m σ H,W i m σ H->((Cm K a).me i H/\D.nx σ H)\/((Cm K a).go i H/\ ∃N,(∀aS H',N aS H'-> ∃m',m'<m/\W (i+1) m' aS H')/\ ∀x H',(Cm K a).tP i H x H'->g x σ H' λde H2=>tb {D with nx:=N,ct:=N,bk:=D.nx} de H2):=by
 refine⟨λi m σ H=>m=xs.length-i/\i<=xs.length/\Pv i σ H,⟨xs.length,by simp,eM _,h0⟩,?_⟩
 rintro i m σ H ⟨rfl,hi,p⟩
 have q1:=hl i σ H hi p;by_cases d9:i<xs.length
 ·refine .inr ⟨⟨xs,xs[i],q1,by simp[d9]⟩,Pv<|i+1,λaS H' p'=>⟨xs.length-(i+1),(by lia),J,d9,p'⟩,λx H' y=>?_⟩
  obtain⟨T,u,rfl,hT,rfl,h1⟩:=y;exact hs i u T σ H (h1 xs q1) p hT
 ·have e:i=xs.length:=by lia
  subst e;exact .inl ⟨⟨xs,q1,dQ _⟩,hd σ H p⟩
abbrev Lk(K:aq)(i j:ag):TG:=Lm K 2 (GS (eI i)<|GS (eI j) R7)
theorem AZ{K:aq}(hT:H T=L (.tup [x,y]))(h:Q ((σ.set i<|L x).set j<|L y) H):Lk K i j (.ref T) σ H Q:=⟨T,[x,y],J,cH.of hT,J,x,[y],J,y,[],J,J,h⟩
section
variable{α β γ:Type}{C:ak}{K:aq}{R:bE α}{R1:bE β}{R2:bE γ}{H U:Hp}{Q:VK}{E:XK}{σ:St}
theorem nt_lcZ(st:ur R)(m:cY R)(m1:cY R1)(m2:cY R2)(h0:NA C E (aE (RL K R1)<|aE (RL K R2) cg) (L (ys,zs,())) σ H ta)(hl:ys.length=zs.length)(dJ:ys.length<=bI)
 (hw:∀u v,da (((da σ vs).set i<|L u).set j<|L v) vs=da σ vs) (he:∀U u v y z,az H U->(y,z)∈ys.zip zs->R1 U u y->R2 U v z->NT C E R (f (y,z)) (((da σ vs).set i<|L u).set j<|L v) U te):
 NT C E (RL K R) (bf f<|ys.zip zs) σ H<|mP (SN K ta) (Lk K i j) oZ te vs:=λU Q s k=>by
 refine h0 U _ s ⟨λH2 us y s2 e q=>?_,λH2 s2 e=>nomatch e⟩
 cases e
 obtain⟨u1,r1,rfl,⟨p,vs1,rfl,hp,ha⟩,u2,r2,rfl,⟨p2,vs2,rfl,lO,sI⟩,rfl⟩:=q;refine⟨p,p2,vs1,vs2,J,hp,lO,λD hD=>?_⟩;have k2:=k.at_ s2;have ha:cf _ vs1 ys:=ha;have sI:cf _ vs2 zs:=sI;have l1:=ha.bH;have l2:=sI.bH;have lz:(ys.zip zs).length=ys.length:=by rw[FI];lia
 refine⟨λi m Hc=>m=ys.length-i/\i<=ys.length/\ff D H2 R f (ys.zip zs) i Hc,⟨ys.length,by simp,eM _,ff.start hD⟩,?_⟩
 rintro n mm Hc ⟨rfl,hn,I⟩
 have q1:=I.same.seq hp;have q2:=I.same.seq lO;by_cases d9:n<ys.length
 ·refine .inr ⟨⟨vs1,vs2,vs1[n],vs2[n],q1,q2,by simp[show n<vs1.length by omega],by simp[show n<vs2.length by omega]⟩,λHc=>ff D H2 R f _ _ Hc,λH' p'=>⟨ys.length-_,(by lia),J,d9,p'⟩,λx H' y=>?_⟩
  sleep 3;obtain⟨T,u,v,rfl,hT,rfl,e1,e2⟩:=y;sleep 4;obtain⟨y,hy,ry⟩:=ha.get<|e1 vs1 q1;obtain⟨z,hz,rz⟩:=sI.get<|e2 vs2 q2;refine AZ bw ⟨hw u v,?_⟩;have sT:az Hc (aC Hc T<|.tup [u,v]):=az.new hT;have I':ff D H2 R f (ys.zip zs) n (aC Hc T<|.tup [u,v]):=by
   obtain⟨sm,d8,zz,b1,b2,b3⟩:=I;exact⟨sm.trans sT,d8,zz,sT _ _ b1,b2.imp λv x=>m _ _ _ _ sT,b3⟩
  have SJ:(ys.zip zs)[n]? =L (y,z):=by rw[PM];exact⟨hy,hz⟩
  exact ff.step st m hD (by lia) k2 SJ I'<|he _ u v y z (s.trans<|s2.trans I'.same) (j' SJ) (m1 _ _ _ _ I'.same ry)<|m2 _ _ _ _ I'.same rz
 ·have e:n=ys.length:=by lia
  subst e;rw[<-lz] at I;exact .inl ⟨⟨vs1,vs2,q1,q2,.inl<|by lia⟩,ff.done k2 I⟩
def rX(A:gk τ)(c:τ->Prop):gk τ:=λH vs t=>A H vs t/\c t
theorem nW{A:gk τ}{c:τ->Prop}{t:au τ}(h:NA C E A t σ H ta)(hc:∀y,t=L y->c y):NA C E (rX A c) t σ H ta:=λU Q s k=>
 h U Q s ⟨λH' vs y s' e q=>k.ok H' vs y s' e ⟨q,hc y e⟩,k.no⟩
end
end L2
namespace L2
open PySem PySem.Spec PyProof.Rows
class LR(A:gk τ)(n:outParam ag):Prop where
 l:∀{H vs t},A H vs t->vs.length=n
instance:LR cg 0:=⟨λh=>gM J9 h⟩
instance{A:gk τ}{R:bE α}[q:LR A n]:LR (aE R A)<|n+1:=⟨λdm=>by obtain⟨_,_,e,_,h⟩:=dm;exact e▸gM (·+1) (q.l h)⟩
instance{A:gk τ}{c:τ->Prop}[q:LR A n]:LR (rX A c) n:=⟨λh=>q.l h.1⟩
class LS(sp:Sp)(n:outParam ag):Prop where
 l:∀{vs H Q E},sp vs H Q E->vs.length=n
instance{A:gk τ}{f:τ->au α}[q:LR A n]:LS (cU C A R f) n:=⟨λdW=>by obtain⟨_,h,_⟩:=dW;exact q.l h⟩
instance{A:gk τ}{f:τ->au α}[q:LR A n]:LS (tL C D A R f)<|n+1:=⟨λgw=>by obtain⟨_,_,_,_,_,e,_,_,_,h,_⟩:=gw;exact e▸gM (·+1) (q.l h)⟩
theorem bh.oc{K:aq}{st:dq}[q:LS sp n](F:bh K x cQ st f fd)(S:bF N ps<|ba st)
 (hb:∀{cj A bA s vs}H(Q E),eF k (A.deeper<|jG cQ (ba st) s.heap.objs.size f cj)->sp vs H Q E-> ∃t,gV (jF (aQ P w C) P w K mg base N cQ (ba st) f cj A bA s H E) (iI st) t/\t {nx:=λ_ H'=>Q .cu H',rt:=Q} (start N vs) H) (e:n=ps.length:=by rfl):aD P w K mg base (aQ P w C) (k+1) f fd ps sp:=F.qi S (λ_ _ _ _ h=>(q.l h).trans e) λ_ _ _ _ H _ Q E=>hb H Q E
theorem bh.p1{gj β:Type}{K:aq}{st:dq}{C D:ak}{R1:bE gj}{R:bE β}{f0:gj×gF->au β}(F:bh K x cQ st f fd)(S:bF N ps<|ba st)
 (hb:∀{cj A bA s}H Q E x1 w1,eF k (A.deeper<|jG cQ (ba st) s.heap.objs.size f cj)->R1 H w1 x1->bQ D R H (f0 (x1,())) Q E-> ∃t,gV (jF (aQ P w C) P w K mg base N cQ (ba st) f cj A bA s H E) (iI st) t/\t {nx:=λ_ H'=>Q .cu H',rt:=Q} (start N [w1]) H) (e:1=ps.length:=by rfl):aD P w K mg base (aQ P w C) (k+1) f fd ps<|cU D (aE R1 cg) R f0:=F.oc S (λH Q E hr h=>by obtain⟨⟨x1,_⟩,⟨w1,_,rfl,h1,rfl⟩,kk⟩:=h;exact hb H Q E x1 w1 hr h1 kk) e
theorem bh.p2{gj ia β:Type}{K:aq}{st:dq}{C D:ak}{R1:bE gj}{R2:bE ia}{R:bE β}{f0:gj×ia×gF->au β}(F:bh K x cQ st f fd)(S:bF N ps<|ba st)
 (hb:∀{cj A bA s}H Q E x1 x2 w1 w2,eF k (A.deeper<|jG cQ (ba st) s.heap.objs.size f cj)->R1 H w1 x1->R2 H w2 x2->bQ D R H (f0 (x1,x2,())) Q E-> ∃t,gV (jF (aQ P w C) P w K mg base N cQ (ba st) f cj A bA s H E) (iI st) t/\t {nx:=λ_ H'=>Q .cu H',rt:=Q} (start N [w1,w2]) H) (e:2=ps.length:=by rfl):aD P w K mg base (aQ P w C) (k+1) f fd ps<|cU D (aE R1<|aE R2 cg) R f0:=F.oc S (λH Q E hr h=>by obtain⟨⟨x1,x2,_⟩,⟨w1,_,rfl,h1,w2,_,rfl,h2,rfl⟩,kk⟩:=h;exact hb H Q E x1 x2 w1 w2 hr h1 h2 kk) e
theorem bh.p3{gj ia jP β:Type}{K:aq}{st:dq}{C D:ak}{R1:bE gj}{R2:bE ia}{R3:bE jP}{R:bE β}{f0:gj×ia×jP×gF->au β}(F:bh K x cQ st f fd)(S:bF N ps<|ba st)
 (hb:∀{cj A bA s}H Q E x1 x2 x3 w1 w2 w3,eF k (A.deeper<|jG cQ (ba st) s.heap.objs.size f cj)->R1 H w1 x1->R2 H w2 x2->R3 H w3 x3->bQ D R H (f0 (x1,x2,x3,())) Q E-> ∃t,gV (jF (aQ P w C) P w K mg base N cQ (ba st) f cj A bA s H E) (iI st) t/\t {nx:=λ_ H'=>Q .cu H',rt:=Q} (start N [w1,w2,w3]) H) (e:3=ps.length:=by rfl):aD P w K mg base (aQ P w C) (k+1) f fd ps<|cU D (aE R1 (aE R2<|aE R3 cg)) R f0:=F.oc S (λH Q E hr h=>by obtain⟨⟨x1,x2,x3,_⟩,⟨w1,_,rfl,h1,w2,_,rfl,h2,w3,_,rfl,h3,rfl⟩,kk⟩:=h;exact hb H Q E x1 x2 x3 w1 w2 w3 hr h1 h2 h3 kk) e
theorem bh.p4{gj ia jP oi β:Type}{K:aq}{st:dq}{C D:ak}{R1:bE gj}{R2:bE ia}{R3:bE jP}{R4:bE oi}{R:bE β}{f0:gj×ia×jP×oi×gF->au β}(F:bh K x cQ st f fd)(S:bF N ps<|ba st)
 (hb:∀{cj A bA s}H Q E x1 x2 x3 x4 w1 w2 w3 w4,eF k (A.deeper<|jG cQ (ba st) s.heap.objs.size f cj)->R1 H w1 x1->R2 H w2 x2->R3 H w3 x3->R4 H w4 x4->bQ D R H (f0 (x1,x2,x3,x4,())) Q E-> ∃t,gV (jF (aQ P w C) P w K mg base N cQ (ba st) f cj A bA s H E) (iI st) t/\t {nx:=λ_ H'=>Q .cu H',rt:=Q} (start N [w1,w2,w3,w4]) H) (e:4=ps.length:=by rfl):aD P w K mg base (aQ P w C) (k+1) f fd ps<|cU D (aE R1<|aE R2 (aE R3<|aE R4 cg)) R f0:=F.oc S (λH Q E hr h=>by obtain⟨⟨x1,x2,x3,x4,_⟩,⟨w1,_,rfl,h1,w2,_,rfl,h2,w3,_,rfl,h3,w4,_,rfl,h4,rfl⟩,kk⟩:=h;exact hb H Q E x1 x2 x3 x4 w1 w2 w3 w4 hr h1 h2 h3 h4 kk) e
theorem bh.p5{gj ia jP oi x_ β:Type}{K:aq}{st:dq}{C D:ak}{R1:bE gj}{R2:bE ia}{R3:bE jP}{R4:bE oi}{R5:bE x_}{R:bE β}{f0:gj×ia×jP×oi×x_×gF->au β}(F:bh K x cQ st f fd)(S:bF N ps<|ba st)
 (hb:∀{cj A bA s}H Q E x1 x2 x3 x4 x5 w1 w2 w3 w4 w5,eF k (A.deeper<|jG cQ (ba st) s.heap.objs.size f cj)->R1 H w1 x1->R2 H w2 x2->R3 H w3 x3->R4 H w4 x4->R5 H w5 x5->bQ D R H (f0 (x1,x2,x3,x4,x5,())) Q E-> ∃t,gV (jF (aQ P w C) P w K mg base N cQ (ba st) f cj A bA s H E) (iI st) t/\t {nx:=λ_ H'=>Q .cu H',rt:=Q} (start N [w1,w2,w3,w4,w5]) H) (e:5=ps.length:=by rfl):aD P w K mg base (aQ P w C) (k+1) f fd ps<|cU D (aE R1 (aE R2<|aE R3 (aE R4<|aE R5 cg))) R f0:=F.oc S (λH Q E hr h=>by obtain⟨⟨x1,x2,x3,x4,x5,_⟩,⟨w1,_,rfl,h1,w2,_,rfl,h2,w3,_,rfl,h3,w4,_,rfl,h4,w5,_,rfl,h5,rfl⟩,kk⟩:=h;exact hb H Q E x1 x2 x3 x4 x5 w1 w2 w3 w4 w5 hr h1 h2 h3 h4 h5 kk) e
@[elab_as_elim]theorem aE.c1{gj:Type}{R1:bE gj}{x:gj×gF}(h:aE R1 cg H vs x){G:af V->Prop}(k:∀w1,R1 H w1 (x.1)->G [w1]):G vs:=by obtain⟨w1,_,rfl,h1,rfl⟩:=h;exact k w1 h1
@[elab_as_elim]theorem aE.c2{gj ia:Type}{R1:bE gj}{R2:bE ia}{x:gj×ia×gF}(h:aE R1 (aE R2 cg) H vs x){G:af V->Prop}(k:∀w1 w2,R1 H w1 (x.1)->R2 H w2 (x.2.1)->G [w1,w2]):G vs:=by obtain⟨w1,_,rfl,h1,w2,_,rfl,h2,rfl⟩:=h;exact k w1 w2 h1 h2
@[elab_as_elim]theorem aE.c3{gj ia jP:Type}{R1:bE gj}{R2:bE ia}{R3:bE jP}{x:gj×ia×jP×gF}(h:aE R1 (aE R2<|aE R3 cg) H vs x){G:af V->Prop}(k:∀w1 w2 w3,R1 H w1 (x.1)->R2 H w2 (x.2.1)->R3 H w3 (x.2.2.1)->G [w1,w2,w3]):G vs:=by obtain⟨w1,_,rfl,h1,w2,_,rfl,h2,w3,_,rfl,h3,rfl⟩:=h;exact k w1 w2 w3 h1 h2 h3
@[elab_as_elim]theorem aE.c4{gj ia jP oi:Type}{R1:bE gj}{R2:bE ia}{R3:bE jP}{R4:bE oi}{x:gj×ia×jP×oi×gF}(h:aE R1 (aE R2 (aE R3<|aE R4 cg)) H vs x){G:af V->Prop}(k:∀w1 w2 w3 w4,R1 H w1 (x.1)->R2 H w2 (x.2.1)->R3 H w3 (x.2.2.1)->R4 H w4 (x.2.2.2.1)->G [w1,w2,w3,w4]):G vs:=by obtain⟨w1,_,rfl,h1,w2,_,rfl,h2,w3,_,rfl,h3,w4,_,rfl,h4,rfl⟩:=h;exact k w1 w2 w3 w4 h1 h2 h3 h4
@[elab_as_elim]theorem aE.c5{gj ia jP oi x_:Type}{R1:bE gj}{R2:bE ia}{R3:bE jP}{R4:bE oi}{R5:bE x_}{x:gj×ia×jP×oi×x_×gF}(h:aE R1 (aE R2<|aE R3 (aE R4<|aE R5 cg)) H vs x){G:af V->Prop}(k:∀w1 w2 w3 w4 w5,R1 H w1 (x.1)->R2 H w2 (x.2.1)->R3 H w3 (x.2.2.1)->R4 H w4 (x.2.2.2.1)->R5 H w5 (x.2.2.2.2.1)->G [w1,w2,w3,w4,w5]):G vs:=by obtain⟨w1,_,rfl,h1,w2,_,rfl,h2,w3,_,rfl,h3,w4,_,rfl,h4,w5,_,rfl,h5,rfl⟩:=h;exact k w1 w2 w3 w4 w5 h1 h2 h3 h4 h5
@[elab_as_elim]theorem aE.c6{gj ia jP oi x_ Xn:Type}{R1:bE gj}{R2:bE ia}{R3:bE jP}{R4:bE oi}{R5:bE x_}{R6:bE Xn}{x:gj×ia×jP×oi×x_×Xn×gF}(h:aE R1 (aE R2 (aE R3<|aE R4 (aE R5<|aE R6 cg))) H vs x){G:af V->Prop}(k:∀w1 w2 w3 w4 w5 w6,R1 H w1 (x.1)->R2 H w2 (x.2.1)->R3 H w3 (x.2.2.1)->R4 H w4 (x.2.2.2.1)->R5 H w5 (x.2.2.2.2.1)->R6 H w6 (x.2.2.2.2.2.1)->G [w1,w2,w3,w4,w5,w6]):G vs:=by obtain⟨w1,_,rfl,h1,w2,_,rfl,h2,w3,_,rfl,h3,w4,_,rfl,h4,w5,_,rfl,h5,w6,_,rfl,h6,rfl⟩:=h;exact k w1 w2 w3 w4 w5 w6 h1 h2 h3 h4 h5 h6
end L2
namespace L2
open PySem PySem.Spec PyProof.Rows
structure uq(k:ag)(A:oj):Prop where
 dp:A.depth+3*k+5<Nj
 un:A.units+16*k+200<oA
theorem uq.depth(r:uq k A):A.depth<Nj:=by have:=r.dp;lia
theorem uq.deeper(r:uq (k+1) A)(env:j9):uq k<|A.deeper env:=⟨by have:=r.dp;show A.depth+1+3*k+5<_;lia,by have:=r.un;show A.units+3+16*k+200<_;lia⟩
theorem eF.mark(r:eF k A)(h:j<=k)(e:au aH):uq j<|A.mark e:=⟨by have:=r.dp;show A.depth+3*j+5<_;lia,by have:=r.un;show A.units+16*j+200<_;lia⟩
structure FA(P:cO)(w:World)(K:aq)(mg:ax->au aH)(base:b9)(CX:o8)(k:ag)(f:ak)(fd:c7)(ps:af ax)(sp:Sp):Prop where
 bH:∀vs H Q E,sp vs H Q E->vs.length=ps.length
 run:∀A bA s H kh us vs Q E,uq k A->tV P w K mg base A bA s H->yc s fd kh (ps.zip us)->cJ vs us->sp vs H Q E->uD (bX P w) A (.call (.ref f) kh) (CR CX bA P w H s Q E) s
def Dv(CX:o8)(P:cO)(w:World)(K:aq)(mg:ax->au aH)(base:b9)(N:af ax)(cQ:ax)(aT:mx)(f:ak)(cd:aH)(A:oj)(bA:af j9)(s:c_)(H:Hp)(E:XK):Cx:={jF CX P w K mg base N cQ aT f cd A bA s H E with kj:=aM}
theorem invH_start{K:aq}
 (S:bF N ps aT) (e0:tV P w K mg base A bA s H) (hl:vs.length=ps.length) (r:cJ vs us)
 (x:InCallC s s.heap.objs.size (yK (jG cQ aT s.heap.objs.size f cd).kindOf (ps.zip us) λ_=>ah) (iH (s.heap.objs.size+1) aT.names []) (yJ (jG cQ aT s.heap.objs.size f cd).kindOf (ps.zip us) λ_=>ah) s1):
 Inv (Dv CX P w K mg base N cQ aT f cd A bA s H E) [] (start N vs) H s1:=by
 have fw:=by have:=gM J9 S.pre;rw[kJ] at this;omega
 obtain⟨h1,tk,rfl,hk⟩:=x.done;have s_:∀b,b∉(Dv CX P w K mg base N cQ aT f cd A bA s H E).ex:=λb z=>absurd (show b∈[] from z)<|by simp
 refine⟨⟨e0.mod,S.kind,J,J,dQ _,λy z c h1 h2=>?_,λy hy=>?_,λy c _ h=>?_,(λz=>nomatch z),Xq e0.frames,.inr ⟨J,J⟩,λb z=>absurd z<|s_ b,e0.bs,e0.qI,λb _ _=>s_ b,λb z=>absurd z<|s_ b,e0.lM,e0.uG⟩,J,e0.eG,Un.kept hk,⟨_,x.toInCall.ns,λi y v h1 h2 h3=>?_⟩,λy c h=>⟨_,x.cell y c h⟩,e0.bL.fresh<|dQ _,λy c h=>?_,λp hp=>absurd (show p∈[] from hp)<|by simp,e0.bL.kept hk,?_⟩
 ·exact name_of_addr x.apart (jR h1)<|jR h2
 ·have hy:=hy
  rcases hy with hy|hy
  ·exact Gp hy
  ·exact absurd J (S.T7 _<|jR hy)
 ·exact CD (x.above y c<|jR h)
 ·have hi:i<vs.length:=by
   unfold start at h2;by_cases hi:i<vs.length
   ·exact hi
   ·rw[PK<|by simpa using hi] at h2
    rw[X'] at h2
    split at h2<;>cases h2
  have ha:vs[i]? =L v:=by
   unfold start at h2;rw[X8<|by simpa using hi,m8] at h2
   cases e:vs[i]? with
   |none=>rw[e] at h2;cases h2
   |some a=>rw[e] at h2;cases h2;rfl
  obtain⟨u,hu,rv⟩:=r.get ha;have hp:ps[i]? =L y:=by
   rw[<-S.pre,X_<|by lia];exact h1
  have Eb:ps.Nodup:=by rw[<-S.pre];exact S.nd.sublist<|Yc _ _
  refine⟨u,rv,?_⟩;rcases S.Ii y (j' hp) with k|k
  ·exact .inl ⟨k,KQ Eb hp hu k⟩
  ·obtain⟨c,e⟩:=Gp k
   refine .inr ⟨.inl k,c,e,?_⟩;have q:=x.cell y c e;rw[KP Eb hp hu (by show aT.names.lookup y≠_;rw[k];decide)] at q;exact q
 ·exact e0.bL.fresh<|CD (x.above y c<|jR h)
 ·unfold start
  show _=N.length;rw[iT,ie,Yb]
  lia
theorem fnH_of{K:aq}{dV kV dX pm cj ct oc:aH}
 (lk:K.lookup f=L ⟨oc,od,.func<|pR gJ cQ params body aT dV kV dX pm an cj ct,vi⟩) (my:Gs K cj cQ=ao) (S:bF N ps aT)
 (bH:∀vs H Q E,sp vs H Q E->vs.length=ps.length)
 (yY:∀A bA s H vs Q E,uq k (A.deeper<|jG cQ aT s.heap.objs.size f cj)->sp vs H Q E-> ∃t,gV (Dv CX P w K mg base N cQ aT f cj A bA s H E) body t/\t {nx:=λ_ H'=>Q .cu H',rt:=Q} (start N vs) H):
 FA P w K mg base CX (k+1) f (pR gJ cQ params body aT dV kV dX pm an cj ct) ps sp:=by
 refine⟨bH,λA bA s H kh us vs Q E hr e0 hb r iL=>?_⟩;have hl:=bH _ _ _ _ iL;have KX:=e0.mod.sV.keeps λb o e=>(e0.bs b o e).1;have kz:=e0.mod.nolimit.keeps λb o e=>(e0.bs b o e).1;have LJ:∀y∈ps.zip us,aT.names.lookup y.1=L .local\/(aT.names.lookup y.1=L .cell/\((iH (s.heap.objs.size+1) aT.names []).lookup y.1).isSome=ao):=λdm hy=>by
  obtain⟨n,v⟩:=dm;rcases S.Ii n (J_ hy).1 with q|q
  ·exact .inl q
  ·exact .inr ⟨q,Qa _ _ _ (.inl q)⟩
 refine ZY hr.depth (KX _ _ lk) J S.co S.A0 J (YI KX my) (hb _ _ _ _ ?_);refine wpAny_newFunctionEnv_cells S.kind LJ λenv he s1 x=>?_;subst he;refine⟨kz.keeps x.toInCall.keep,codeAny_func ?_⟩;obtain⟨t,ht,hq⟩:=yY A bA s H vs Q E (hr.deeper _) iL;have I:Inv (Dv CX P w K mg base N cQ aT f cj A bA s H E) [] (start N vs) H s1:=invH_start S e0 hl r x;refine lr (ht [] s1 (start N vs) H _ I hq) (λfl s' hs=>?_) λe s' hs=>hs;have dr:∀{aS:St}{H':Hp}{v:V}{u:aH},Inv (Dv CX P w K mg base N cQ aT f cj A bA s H E) [] aS H' s'->RelV v u->Q v H'->CE bA P w H s Q u s':=λ{aS H' v u}cG rv q=>⟨v,H',cG.os,cG.eG,cG.base,cG.bL,rv,q⟩
 cases fl with
 |ret u=>
  obtain⟨v,aS,H',cG,rv,q⟩:=hs;exact dr cG rv q
 |next=>
  obtain⟨aS,H',cG,q⟩:=hs;exact dr (v:=V.cu) cG J q
 |brk=>
  obtain⟨_,_,_,q⟩:=hs;exact ic q
 |cont=>
  obtain⟨_,_,_,q⟩:=hs;exact ic q
section
variable{X:Cx}{CX:o8}{k:ag}{f:ak}{fd:c7}{ps:af ax}{sp:Sp}{iW:af V}{ds:af aH}{E:XK}{x:ax}{p pos:gW}{e:Expr}{es:af Expr}{t:TA}
theorem pe_callH(F:FA X.prog X.w X.K X.mg X.base CX k f fd ps sp)(hr:uq k X.A)(hg:Gl X x)(hm:X.mg x=L (.ref f))(hk:jx X.K (.ref f)=ao)(hb:Binds X.K fd ps ds)(hd:cJ iW ds)(hx:mq CX X E)
 (ha:PA X (e::es) t) (oI:(x=="__debug__")=aM:=by decide) (he:dv (e::es) X.env=(aM,dg e X.env)::dv es X.env:=by rfl) (fw:(jC pos<|dv es X.env).any (·.1)=aM:=by rfl):
 PE X (.Call (.Name x p) (e::es) [] pos)<|d_ sp iW E t:=by
 intro ai s σ H Q I h;refine Fu<|zl I hg hm ?_ oI;refine Ar I.ok.mod.sV hk (cn (ha pos ai s σ H _ I h) λus s1⟨vs,U,I1,r,q⟩=>⟨I1.iM,?_⟩) he fw;have r2:=r.append hd;have hl:(us++ds).length=ps.length:=by rw[<-r2.length];exact F.bH _ _ _ _ q
 refine O_ (yN (F.run X.A X.stack s1 U ⟨us,[]⟩ _ _ Q E hr I1.GH (hb s1 us I1.iM hl) r2 q) λr s' hq=>?_)
 cases r with
 |error e=>exact hx ai σ U s1 e s' I1 hq
 |ok fl=>
  cases fl with
  |ret u=>exact I1.F8 hq
  |next=>exact ic hq
  |brk=>exact ic hq
  |cont=>exact ic hq
end
end L2
namespace L2
open PySem PySem.Spec PyProof.Rows
open PySem.W (WData Codec OpenSpec Well WellAll ReadsW ReadsAllW)
mutual
inductive Dw(K:aq)(H:Hp):V->oy->Prop
 |cu:Dw K H .cu .none
 |bl b:Dw K H (.bl b)<|.bool b
 |int i:Dw K H (.int i)<|.int i
 |str x:Dw K H (.str x)<|.str x
 |nF b:Dw K H (.nF b)<|.bytes b.toList
 |lst {a:ak} {xs:af V} {ds:af oy}:SqL K H a xs->o_ K H xs ds->Dw K H (.ref a) (.list ds)
 |tup {a:ak} {xs:af V} {ds:af oy}:cH K H a xs->o_ K H xs ds->Dw K H (.ref a) (.tuple ds)
inductive o_ K H:af V->af oy->Prop
 |nil:o_ K H [] []
 |cons {v:V} {vs:af V} {d:oy} {ds:af oy}:Dw K H v d->o_ K H vs ds->o_ K H (v::vs) (d::ds)
end
theorem dw_ints{K:aq}:∀ns:af ae,o_ K H (ns.map V.int) (ns.map WData.int)
 |[]=>.nil
 |n::r=>.cons (.int n)<|dw_ints r
theorem ints_dw{K:aq}:∀(ns:af ae)xs,o_ K H xs (ns.map WData.int)->xs=ns.map V.int
 |[],xs,h=>by
  cases h
  rfl
 |n::r,xs,h=>by
  cases h with
  |cons h1 h2=>
   cases h1
   rw[ints_dw r _ h2]<;>rfl
section
variable{P:cO}{w:World}{K:aq}{H:Hp}{h:b9}{R:PySem.W.WRecords}{cl:ax->au ak}
theorem sqL_at(bL:eK P w H h)(KX:K.In h)(q:SqL K H a xs):∃(aZ:af aH)(o:eR)(n:ag),cJ xs aZ/\h.get? a=L o/\o.cls= .type "list"/\o.data= .seq aZ.toArray n:=by
 rcases q with q|⟨o,aZ,n,e,hc,_,hd,_,hv⟩
 ·obtain⟨_,aZ,n,hv,e⟩:=(show gU P w H h a (.lst xs) from q.ok bL)
  exact⟨aZ,_,n,hv,e,J,J⟩
 ·exact⟨aZ.toList,o,n,hv,KX _ _ e,hc,by simp[hd]⟩
theorem sqT_at(bL:eK P w H h)(KX:K.In h)(q:cH K H a xs):∃(aZ:af aH)(o:eR)(n:ag),cJ xs aZ/\h.get? a=L o/\o.cls= .type "tuple"/\o.data= .seq aZ.toArray n:=by
 rcases q with q|⟨o,aZ,n,e,hc,hd,_,hv⟩
 ·obtain⟨_,aZ,hv,o,e,hc,n,hd⟩:=(show gU P w H h a (.tup xs) from q.ok bL)
  exact⟨aZ,o,n,hv,e,hc,hd⟩
 ·exact⟨aZ.toList,o,n,hv,KX _ _ e,hc,by simp[hd]⟩
mutual
theorem Dw.BO(bL:eK P w H h)(KX:K.In h):∀d v u,Dw K H v d->RelV v u-> ∃as,ReadsW R cl h u d as
 | .none,_,_,x,r=>by
  cases x
  cases r
  exact⟨_,ReadsW.none⟩
 | .bool b,_,_,x,r=>by
  cases x
  cases r
  exact⟨_,ReadsW.bool b⟩
 | .int i,_,_,x,r=>by
  cases x
  obtain⟨t,rfl⟩:=r;exact⟨_,ReadsW.int i t⟩
 | .str s,_,_,x,r=>by
  cases x
  obtain⟨t,rfl⟩:=r;exact⟨_,ReadsW.str s t⟩
 | .bytes b,_,_,x,r=>by
  cases x
  obtain⟨t,rfl⟩:=r;exact⟨_,ReadsW.bytes _ t⟩
 | .list ds,_,_,x,r=>by
  cases x with
  |lst hs ha=>
   cases r
   obtain⟨aZ,o,n,rv,ho,hc,hd⟩:=sqL_at bL KX hs;obtain⟨as,hr⟩:=Dw.zP bL KX ds _ aZ ha rv;exact⟨_,ReadsW.list ho hc hd hr⟩
 | .tuple ds,_,_,x,r=>by
  cases x with
  |tup hs ha=>
   cases r
   obtain⟨aZ,o,n,rv,ho,hc,hd⟩:=sqT_at bL KX hs;obtain⟨as,hr⟩:=Dw.zP bL KX ds _ aZ ha rv;exact⟨_,ReadsW.tuple ho hc hd hr⟩
 | .float _,_,_,x,_=>by cases x
 | .dict _,_,_,x,_=>by cases x
 | .bytearray _,_,_,x,_=>by cases x
 | .set _,_,_,x,_=>by cases x
 | .frozenset _,_,_,x,_=>by cases x
 | .obj _ _,_,_,x,_=>by cases x
theorem Dw.zP(bL:eK P w H h)(KX:K.In h):∀ds vs us,o_ K H vs ds->cJ vs us-> ∃as,ReadsAllW R cl h us ds as
 |[],_,_,x,r=>by
  cases x
  cases r
  exact⟨_,ReadsAllW.nil⟩
 |d::ds,_,_,x,r=>by
  cases x with
  |cons h1 h2=>
   cases r with
   |cons r1 r2=>
    obtain⟨as,q1⟩:=Dw.BO bL KX d _ _ h1 r1;obtain⟨bs,q2⟩:=Dw.zP bL KX ds _ _ h2 r2;exact⟨_,ReadsAllW.cons q1 q2⟩
end
end
mutual
def qo:oy->df
 | .none=>ao
 | .bool _=>ao
 | .int _=>ao
 | .str _=>ao
 | .bytes _=>ao
 | .list xs=>tE xs
 | .tuple xs=>tE xs
 |_=>aM
def tE:af oy->df
 |[]=>ao
 |x::r=>qo x&&tE r
end
theorem UX{α:Type}{f:α->oy}(h:∀a,qo (f a)=ao):∀l:af α,tE (l.map f)=ao
 |[]=>rfl
 |x::r=>by
  show(qo _&&tE (r.map f))=ao;rw[h x,UX h r]<;>rfl
theorem xI:∀(c:Codec)a,qo (c.enc a)=ao
 | .unit,_=>rfl
 | .bool,_=>rfl
 | .int _ _,_=>rfl
 | .nat _ _,_=>rfl
 | .u8,_=>rfl
 | .bytes _ _,_=>rfl
 | .text _ _ _ _,_=>rfl
 | .list _ _ c,a=>UX (λx=>xI c x) a
 | .pair c d,a=>by
  show(qo _&&(qo _&&ao))=ao;rw[xI c a.1,xI d a.2]<;>rfl
 | .triple c d e,a=>by
  show(qo _&&(qo _&&(qo _&&ao)))=ao;rw[xI c a.1,xI d a.2.1,xI e a.2.2]<;>rfl
 | .option c,ah=>rfl
 | .option c,L x=>xI c x
theorem UY:∀cs a,tE (Fz cs a)=ao
 |[],_=>rfl
 |c::cs,a=>by
  show(qo _&&tE _)=ao;rw[xI c a.1,UY cs a.2]<;>rfl
theorem O8:∀{xs:af oy}{d:oy},d∈xs->d.weight<=Y3 xs
 |[],d,h=>absurd h<|by simp
 |x::r,d,h=>by
  show d.weight<=x.weight+1+Y3 r;rcases List.mem_cons.mp h with e|m
  ·rw[e]
   lia
  ·have z:=O8 m
   lia
def mT:aH->V
 | .none=>.cu
 | .bool b=>.bl b
 | .int i _=>.int i
 | .str x _=>.str x
 | .bytes b _=>.nF b
 | .ref a=>.ref a
 |_=>.cu
def ou(A:af ak):aH->Prop
 | .none=>jb
 | .bool _=>jb
 | .int _ _=>jb
 | .str _ _=>jb
 | .bytes _ _=>jb
 | .ref a=>a∈A
 |_=>e_
theorem ou.aV(h:∀a∈A,a∈B):∀{u:aH},ou A u->ou B u:=λ{u}x=>by
 cases u with
 |ref a=>exact h a x
 |none=>trivial
 |bool b=>trivial
 |int i t=>trivial
 |str s t=>trivial
 |bytes b t=>trivial
 |_=>exact ic x
theorem relV_toV(x:ou A u):RelV (mT u) u:=by
 cases u with
 |ref a=>rfl
 |none=>rfl
 |bool b=>rfl
 |int i t=>exact⟨t,J⟩
 |str s t=>exact⟨t,J⟩
 |bytes b t=>exact⟨t,J⟩
 |_=>exact ic x
theorem B_:∀{vs:af aH},(∀u∈vs,ou A u)->cJ (vs.map mT) vs
 |[],_=>.nil
 |u::r,h=>.cons (relV_toV (h u<|iB ..)) (B_ λx hx=>h x<|gD _ hx)
def o6(h:b9)(A:af ak)(a:ak):Prop:=∃vs:af aH,vs.length<=bI/\(∀u∈vs,ou A u)/\(h.get? a=L {cls:=.type "list",data:=.seq vs.toArray}\/h.get? a=L {cls:=.type "tuple",data:=.seq vs.toArray})
theorem o6.aV(k:∀a∈A,a∈B)(x:o6 h A a):o6 h B a:=by
 obtain⟨vs,h1,h2,h3⟩:=x;exact⟨vs,h1,λu hu=>(h2 u hu).aV k,h3⟩
theorem JG:∀{vs:af aH}{ds:af oy},wJ P h vs ds->vs.length=ds.length
 |_,_,.nil=>rfl
 |_,_,.cons _ b=>by
  show _+1=_+1;rw[JG b]
theorem Xd(x:Well P h v<|.list ds):∃(a:ak)(vs:af aH),v= .ref a/\h.get? a=L {cls:=.type "list",data:=.seq vs.toArray}/\wJ P h vs ds:=by
 cases x with
 |list ho oF=>exact⟨_,_,J,ho,oF⟩
theorem Xe(x:Well P h v<|.tuple ds):∃(a:ak)(vs:af aH),v= .ref a/\h.get? a=L {cls:=.type "tuple",data:=.seq vs.toArray}/\wJ P h vs ds:=by
 cases x with
 |tuple ho oF=>exact⟨_,_,J,ho,oF⟩
theorem Xc(x:wJ P h us<|d::ds):∃(v:aH)(vs:af aH),us=v::vs/\Well P h v d/\wJ P h vs ds:=by
 cases x with
 |cons a b=>exact⟨_,_,J,a,b⟩
theorem S9(h:n<=1048576):n<=bI:=dN h dc
section
variable{P:Params}{h:b9}
mutual
theorem Zf:∀d v,Well P h v d->qo d=ao->d.weight<=1048576-> ∃A,ou A v/\ ∀a∈A,o6 h A a
 | .none,_,x,_,_=>by
  cases x
  exact⟨[],ck,λa m=>absurd m<|by simp⟩
 | .bool b,_,x,_,_=>by
  cases x
  exact⟨[],ck,λa m=>absurd m<|by simp⟩
 | .int i,_,x,_,_=>by
  cases x
  exact⟨[],ck,λa m=>absurd m<|by simp⟩
 | .str s,_,x,_,_=>by
  cases x
  exact⟨[],ck,λa m=>absurd m<|by simp⟩
 | .bytes b,_,x,_,_=>by
  cases x
  exact⟨[],ck,λa m=>absurd m<|by simp⟩
 | .list ds,_,x,p,z=>by
  obtain⟨a,vs,rfl,ho,oF⟩:=Xd x;have z2:=z;obtain⟨A,h1,h2⟩:=F9 ds _ oF p λd hd=>dN (O8 hd) z2;have k:∀b∈A,b∈a::A:=λb hb=>gD _ hb;refine⟨a::A,iB ..,λb hb=>?_⟩;rcases List.mem_cons.mp hb with e|m
  ·rw[e]
   exact⟨vs,S9 (by rw[JG oF];exact dN (YM ds) z2),λu hu=>(h1 u hu).aV k,.inl ho⟩
  ·exact(h2 b m).aV k
 | .tuple ds,_,x,p,z=>by
  obtain⟨a,vs,rfl,ho,oF⟩:=Xe x;have z2:=z;obtain⟨A,h1,h2⟩:=F9 ds _ oF p λd hd=>dN (O8 hd) z2;have k:∀b∈A,b∈a::A:=λb hb=>gD _ hb;refine⟨a::A,iB ..,λb hb=>?_⟩;rcases List.mem_cons.mp hb with e|m
  ·rw[e]
   exact⟨vs,S9 (by rw[JG oF];exact dN (YM ds) z2),λu hu=>(h1 u hu).aV k,.inr ho⟩
  ·exact(h2 b m).aV k
 | .float _,_,_,p,_=>o7 (show aM=ao from p)
 | .dict _,_,_,p,_=>o7 (show aM=ao from p)
 | .bytearray _,_,_,p,_=>o7 (show aM=ao from p)
 | .set _,_,_,p,_=>o7 (show aM=ao from p)
 | .frozenset _,_,_,p,_=>o7 (show aM=ao from p)
 | .obj _ _,_,_,p,_=>o7 (show aM=ao from p)
theorem F9:∀ds vs,wJ P h vs ds->tE ds=ao->(∀d∈ds,d.weight<=1048576)-> ∃A,(∀u∈vs,ou A u)/\ ∀a∈A,o6 h A a
 |[],_,x,_,_=>by
  cases x
  exact⟨[],λu m=>absurd m<|by simp,λa m=>absurd m<|by simp⟩
 |d::ds,_,x,p,z=>by
  obtain⟨v,vs,rfl,x1,x2⟩:=Xc x;have q:=Bool.and_eq_true_iff.mp p;obtain⟨A,a1,a2⟩:=Zf d v x1 q.1 (z d<|iB ..);obtain⟨B,b1,b2⟩:=F9 ds vs x2 q.2 λe he=>z e<|gD _ he;have kA:∀b∈A,b∈A++B:=λb hb=>List.mem_append.mpr<|.inl hb;have kB:∀b∈B,b∈A++B:=λb hb=>List.mem_append.mpr<|.inr hb;refine⟨A++B,λu hu=>?_,λb hb=>?_⟩
  ·rcases List.mem_cons.mp hu with e|m
   ·rw[e]
    exact a1.aV kA
   ·exact(b1 u m).aV kB
  ·rcases List.mem_append.mp hb with m|m
   ·exact(a2 b m).aV kA
   ·exact(b2 b m).aV kB
end
end
def G_(o:eR):au HO:=match o.data with
 | .seq vs _=>if(o.cls==AJ "list")=ao then L (.iX o (.lst<|vs.toList.map mT)) else L (.iX o (.tup<|vs.toList.map mT))
 |_=>ah
def jV(K:aq)(h:b9)(A:af ak):Hp:=λb=>if b∈A then(if(K.lookup b).isNone=ao then(h.get? b).bind G_ else ah) else ah
def An(H:Hp):Prop:=∀b,H b=ah\/ ∃o u,H b=L (.iX o u)
theorem Sy(vs:af aH):G_ {cls:=.type "list",data:=.seq vs.toArray}=L (.iX {cls:=.type "list",data:=.seq vs.toArray} (.lst<|vs.map mT)):=by
 show(if(AJ "list"==AJ "list")=ao then L _ else L (HO.iX {cls:=.type "list",data:=.seq vs.toArray} (.tup<|vs.toArray.toList.map mT)))=_;rw[aK<|beq_self_eq_true _]
theorem Sz(vs:af aH):G_ {cls:=.type "tuple",data:=.seq vs.toArray}=L (.iX {cls:=.type "tuple",data:=.seq vs.toArray} (.tup<|vs.map mT)):=by
 show(if(AJ "tuple"==AJ "list")=ao then L (HO.iX {cls:=.type "tuple",data:=.seq vs.toArray} (.lst<|vs.toArray.toList.map mT)) else L _)=_;rw[ay dc]
section
variable{P:cO}{w:World}{K:aq}{h:b9}{A:af ak}
theorem F'(hb:b∈A)(hk:K.lookup b=ah)(e:h.get? b=L o):jV K h A b=G_ o:=by
 unfold jV;rw[aK hb,hk,aK (show none.isNone=ao from J),e]<;>rfl
theorem of_argH(q:jV K h A b=L u):b∈A/\K.lookup b=ah:=by
 unfold jV at q;by_cases hb:b∈A
 ·rw[aK hb] at q
  cases hk:K.lookup b with
  |none=>exact⟨hb,J⟩
  |some o=>
   rw[hk,ay<|by simp] at q
   cases q
 ·rw[ay hb] at q
  cases q
theorem F_(ar:∀a∈A,o6 h A a)(q:jV K h A b=L u):K.lookup b=ah/\ ∃vs:af aH,vs.length<=bI/\(∀u∈vs,ou A u)/\((h.get? b=L {cls:=.type "list",data:=.seq vs.toArray}/\u= .iX {cls:=.type "list",data:=.seq vs.toArray} (.lst<|vs.map mT))\/
                                                                                                         (h.get? b=L {cls:=.type "tuple",data:=.seq vs.toArray}/\u= .iX {cls:=.type "tuple",data:=.seq vs.toArray} (.tup<|vs.map mT))):=by
 obtain⟨hb,hk⟩:=of_argH q;obtain⟨vs,h1,h2,h3⟩:=ar b hb;refine⟨hk,vs,h1,h2,?_⟩;rcases h3 with e|e
 ·rw[F' hb hk e,Sy] at q
  exact .inl ⟨e,(ny q).symm⟩
 ·rw[F' hb hk e,Sz] at q
  exact .inr ⟨e,(ny q).symm⟩
theorem Zh(ar:∀a∈A,o6 h A a):An<|jV K h A:=λb=>by
 cases q:jV K h A b with
 |none=>exact .inl J
 |some u=>
  obtain⟨_,vs,_,_,⟨_,e⟩|⟨_,e⟩⟩:=F_ ar q
  ·exact .inr ⟨_,_,by rw[e]⟩
  ·exact .inr ⟨_,_,by rw[e]⟩
theorem Zg(ar:∀a∈A,o6 h A a):eK P w (jV K h A) h:=λb u q=>by
 obtain⟨_,vs,h1,h2,⟨e,rfl⟩|⟨e,rfl⟩⟩:=F_ ar q
 ·exact⟨e,by rw[ie];exact h1,vs,_,B_ h2,e⟩
 ·exact⟨e,by rw[ie];exact h1,vs,B_ h2,_,e,J,_,J⟩
theorem IZ{vs us:af aH}(e:(L {cls:=c,data:=.seq vs.toArray}:au eR)=L {cls:=c',data:=.seq us.toArray}):c=c'/\vs=us:=by
 have e1:=ny e;have e2:=gM Obj.cls e1;have e3:=gM Obj.data e1;injection e3 with e4
 refine⟨e2,?_⟩;have e5:=gM Pk e4;simpa using e5
theorem Zi(KX:K.In h)(ar:∀a∈A,o6 h A a){vs:af aH}(ha:a∈A)(e:h.get? a=L {cls:=.type "list",data:=.seq vs.toArray}):(∀u∈vs,ou A u)/\SqL K (jV K h A) a (vs.map mT):=by
 obtain⟨us,h1,h2,h3⟩:=ar a ha;have hu:us=vs:=by
  rcases h3 with q|q
  ·rw[e] at q
   exact(IZ q).2.symm
  ·rw[e] at q
   exact absurd (Y2 (IZ q).1) dc
 subst hu;refine⟨h2,?_⟩
 cases hk:K.lookup a with
 |none=>exact .inl<|.inr ⟨_,by rw[F' ha hk e,Sy]⟩
 |some o=>
  have e2:=KX a o hk;rw[e] at e2;obtain rfl:=ny e2;exact .inr ⟨_,us.toArray,_,hk,J,J,J,by rw[gx];exact h1,by simpa using B_ h2⟩
theorem Zj(KX:K.In h)(ar:∀a∈A,o6 h A a){vs:af aH}(ha:a∈A)(e:h.get? a=L {cls:=.type "tuple",data:=.seq vs.toArray}):(∀u∈vs,ou A u)/\cH K (jV K h A) a (vs.map mT):=by
 obtain⟨us,h1,h2,h3⟩:=ar a ha;have hu:us=vs:=by
  rcases h3 with q|q
  ·rw[e] at q
   exact absurd (Y2 (IZ q).1) dc
  ·rw[e] at q
   exact(IZ q).2.symm
 subst hu;refine⟨h2,?_⟩
 cases hk:K.lookup a with
 |none=>exact .inl<|.inr ⟨_,by rw[F' ha hk e,Sz]⟩
 |some o=>
  have e2:=KX a o hk;rw[e] at e2;obtain rfl:=ny e2;exact .inr ⟨_,us.toArray,_,hk,J,J,by rw[gx];exact h1,by simpa using B_ h2⟩
mutual
theorem dw_one(KX:K.In h)(ar:∀a∈A,o6 h A a):∀d v,Well Pm h v d->qo d=ao->ou A v->Dw K (jV K h A) (mT v) d
 | .none,_,x,_,_=>by
  cases x
  exact .cu
 | .bool b,_,x,_,_=>by
  cases x
  exact .bl b
 | .int i,_,x,_,_=>by
  cases x
  exact .int i
 | .str s,_,x,_,_=>by
  cases x
  exact .str s
 | .bytes b,_,x,_,_=>by
  cases x
  have z:=Dw.nF (K:=K) (H:=jV K h A) b.toArray;exact z
 | .list ds,_,x,p,hu=>by
  obtain⟨a,vs,rfl,ho,oF⟩:=Xd x;obtain⟨h2,hs⟩:=Zi KX ar hu ho;exact .lst hs<|GD KX ar ds _ oF p h2
 | .tuple ds,_,x,p,hu=>by
  obtain⟨a,vs,rfl,ho,oF⟩:=Xe x;obtain⟨h2,hs⟩:=Zj KX ar hu ho;exact .tup hs<|GD KX ar ds _ oF p h2
 | .float _,_,_,p,_=>o7 (show aM=ao from p)
 | .dict _,_,_,p,_=>o7 (show aM=ao from p)
 | .bytearray _,_,_,p,_=>o7 (show aM=ao from p)
 | .set _,_,_,p,_=>o7 (show aM=ao from p)
 | .frozenset _,_,_,p,_=>o7 (show aM=ao from p)
 | .obj _ _,_,_,p,_=>o7 (show aM=ao from p)
theorem GD{Pm:Params}(KX:K.In h)(ar:∀a∈A,o6 h A a):∀ds vs,wJ Pm h vs ds->tE ds=ao->(∀u∈vs,ou A u)->o_ K (jV K h A) (vs.map mT) ds
 |[],_,x,_,_=>by
  cases x
  exact .nil
 |d::ds,_,x,p,hu=>by
  obtain⟨v,vs,rfl,x1,x2⟩:=Xc x;have q:=Bool.and_eq_true_iff.mp p;exact .cons (dw_one KX ar d v x1 q.1 (hu _<|iB ..)) (GD KX ar ds vs x2 q.2 λu m=>hu u<|gD _ m)
end
end
theorem spec_call{K:aq}
 (KX:K.In eQ.heap) (Sx:eQ.heap.Ns ee mg) (hb:eQ.heap.Ns Q4 mb) (hbb:∀x:ax,x≠"__name__"->mb x=Dm x) (hlim:eQ.heap.NoLimit) (hg:eQ.gens= #[])
 (DT:wJ w.params eQ.heap vU ds) (fw:tE ds=ao) (hwt:∀d∈ds,d.weight<=1048576) (hr:eF k Dq)
 (F:∀base,K.In base->base.Ns ee mg->aD P w K mg base CX k fa fd ps sp) (hbind:∀s us,us.length=ps.length->yc s fd ⟨us,[]⟩ (ps.zip us)) (dJ:ds.length=ps.length)
 (iL:∀H xs,An H->o_ K H xs ds->sp xs H (λv H'=>Dw K H' v d0) λ_ _ _=>e_)
 (DI:∀H e s',CX [] H eQ (λ_ _ _=>e_) e s'->e_):
 uD (bX P w) Dq (.call (.ref fa) ⟨vU,[]⟩) (λr s'=>∃u as,r= .ok (.ret u)/\ReadsW R cl s'.heap u d0 as/\OldK eQ.heap s'.heap/\s'.os=eQ.os/\tQ s'.gens) eQ:=by
 obtain⟨A,ho,ar⟩:=F9 ds vU DT fw hwt;have hO:An<|jV K eQ.heap A:=Zh ar;have bL:eK P w (jV K eQ.heap A) eQ.heap:=Zg ar;have hS:=GD KX ar ds vU DT fw ho;have hV:=B_ ho;have hK:∀b u,jV K eQ.heap A b=L u->K.lookup b=ah:=λb u q=>(F_ ar q).1;have s_:∀{b:ak}{o:eR}{es:jv yd}{ep:ag},eQ.heap.get? b=L o->o.data= .dict es ep->jV K eQ.heap A b=ah:=λ{b o es ep}e d=>by
  cases q:jV K eQ.heap A b with
  |none=>rfl
  |some u=>
   obtain⟨_,vs,_,_,⟨e2,_⟩|⟨e2,_⟩⟩:=F_ ar q
   ·rw[e2] at e
    cases e
    have d':=d
    cases d'
   ·rw[e2] at e
    cases e
    have d':=d
    cases d'
 generalize jV K eQ.heap A=H at hO bL hS hK s_;have QI:∀{b:ak}{o:eR},eQ.heap.get? b=L o->H b=ah->(Be eQ.heap H).get? b=L o:=λe n=>hidT_get e n;have HH:∀{b:ak}{m:ax->au aH},eQ.heap.Ns b m->(Be eQ.heap H).Ns b m:=λ{b m}dm=>by obtain⟨o,es,ep,e,d,r⟩:=dm;exact⟨o,es,ep,QI e<|s_ e d,d,r⟩
 have nK:∀b o,K.lookup b=L o->H b=ah:=λb o e=>by
  cases q:H b with
  |none=>rfl
  |some u=>
   rw[hK b u q] at e
   cases e
 have Sh:=λb o e=>QI (KX b o e)<|nK b o e;have hM:Mod K mg _:=⟨Sh,HH Sx,⟨mb,HH hb,hbb⟩,let⟨mc,h1,h2⟩:=hlim;⟨mc,HH h1,h2⟩⟩;have e0:tV P w K mg _ Dq [] eQ H:=⟨J,hM,λb o e=>of_hidT e,CA<|hidT_size _ _,ck,λb hb=>absurd (show b∈[] from hb)<|by simp,bL,.of_eq hg⟩;have hl:vU.length=ps.length:=by rw[JG DT];exact dJ
 refine yN ((F _ Sh<|HH Sx).run Dq [] eQ H ⟨vU,[]⟩ vU (vU.map mT) _ _ hr e0 (hbind eQ vU hl) hV<|iL H _ hO hS) λr s' x=>?_
 cases r with
 |error e=>exact(DI H e s' x).elim
 |ok fl=>
  cases fl with
  |next=>exact ic x
  |brk=>exact ic x
  |cont=>exact ic x
  |ret u=>
   obtain⟨v,H',os,eG,un,hok',r',q⟩:=x;have kept:=λb o e=>by
    cases q2:H b with
    |none=>exact un.keep b o e q2 (by intro z;exact absurd (show b∈[] from z)<|by simp)<|by simp
    |some u2=>
     rcases hO b with z|⟨ob,u3,z⟩
     ·rw[q2] at z
      cases z
     ·have z2:=un.lL b ob _ z
      obtain⟨e1,_⟩:=bL b _ z;obtain⟨e2,_⟩:=hok' b _ z2;rw[e] at e1
      cases e1
      exact e2
   have XY:=λb o e=>kept b o<|KX b o e;obtain⟨as,SD⟩:=Dw.BO hok' XY d0 v u q r';exact⟨u,as,J,SD,OldK.of_keep kept,os,eG⟩
theorem layable_weight(h:WData.layableAll ds=ao):∀d∈ds,d.weight<=1048576:=λd hd=>
 (PySem.W.layableW_iff.mp<|List.all_eq_true.mp h d hd).2.2
theorem Ru:∀cs a,(Fz cs a).length=cs.length
 |[],_=>rfl
 |c::cs,a=>by
  show(Fz cs a.2).length+1=cs.length+1;rw[Ru cs a.2]
theorem walk_spec{K:Params->aq}{CX:World->o8}{sp:World->Sp}
 (LY:r.wellSaid=ao) (So:d.params.defaults=[]) (dJ:r.args.length=ps.length) (hr:eF k Dq)
 (hY:∀w h,YP w h->(K w.params).In h)
 (F:∀w mg fa h,YP w h->(K w.params).In h->h.Ns ee mg->mg d.name=L (.ref fa)-> ∃fd,(∀s us,us.length=ps.length->yc s fd ⟨us,[]⟩ (ps.zip us))/\ ∀base,(K w.params).In base->base.Ns ee mg->aD r.prog w (K w.params) mg base (CX w) k fa fd ps (sp w))
 (iL:∀w H xs a,An H->XE r.args a=ao->JU r.args r.asked a=ao->o_ (K w.params) H xs (Fz r.args a)->sp w xs H (λv H'=>Dw (K w.params) H' v (r.ret.enc<|JU r.args r.f a)) λ_ _ _=>e_)
 (DI:∀w H s e s',CX w [] H s (λ_ _ _=>e_) e s'->e_):
 YG q loose XP YP r d [] λf vs=>YQ f vs:=by
 intro w gK eQ mg mb G Y fa o pm cd dX dV kV ho hd my hD hmg hg kh vU as hpre hlay SD DT hlo;obtain⟨a,e1,e2⟩:=PySem.W.os_pre_some hpre;obtain⟨e3,hwi⟩:=Codec.encAll_of_decAll r.args kh a e1;subst e3;have KX:=hY w _ Y;obtain⟨fd,hb,hF⟩:=F w mg fa _ Y KX G.T.g hmg
 refine PySem.W.enter_call (yN (spec_call (R:=[]) (cl:=classAt gK.heap) KX G.T.g G.T.b G.T.builtins G.T.nolimit hg DT (UY _ _) (layable_weight hlay) hr hF hb (by rw[Ru];exact dJ)
  (λH xs hO hS=>iL w H xs a hO hwi e2 hS) λH e s'=>DI w H eQ e s') λr' s' hq=>?_)
 obtain⟨u,as',rfl,h1,h2,h3,h4⟩:=hq;exact⟨.inl ⟨u,_,as',J,λ_=>J,h1,(OpenSpec.post_iff LY hwi _ _).mpr J,λz=>o7 (show aM=ao from z)⟩,h2,h3,h4⟩
end L2
namespace BW
open PySem PySem.Spec PyProof.Rows L2
inductive E2{T0 T1:Type}(p:T0->T1->Prop):Prop
 |mk:∀a0 a1,p a0 a1->E2 p
inductive E3{T0 T1 T2:Type}(p:T0->T1->T2->Prop):Prop
 |mk:∀a0 a1 a2,p a0 a1 a2->E3 p
inductive E4{T0 T1 T2 T3:Type}(p:T0->T1->T2->T3->Prop):Prop
 |mk:∀a0 a1 a2 a3,p a0 a1 a2 a3->E4 p
inductive E5{T0 T1 T2 T3 T4:Type}(p:T0->T1->T2->T3->T4->Prop):Prop
 |mk:∀a0 a1 a2 a3 a4,p a0 a1 a2 a3 a4->E5 p
inductive A3(p0 p1 p2:Prop):Prop
 |mk:p0->p1->p2->A3 p0 p1 p2
inductive A4(p0 p1 p2 p3:Prop):Prop
 |mk:p0->p1->p2->p3->A4 p0 p1 p2 p3
inductive A5(p0 p1 p2 p3 p4:Prop):Prop
 |mk:p0->p1->p2->p3->p4->A5 p0 p1 p2 p3 p4
inductive A6(p0 p1 p2 p3 p4 p5:Prop):Prop
 |mk:p0->p1->p2->p3->p4->p5->A6 p0 p1 p2 p3 p4 p5
inductive A7(p0 p1 p2 p3 p4 p5 p6:Prop):Prop
 |mk:p0->p1->p2->p3->p4->p5->p6->A7 p0 p1 p2 p3 p4 p5 p6
inductive A8(p0 p1 p2 p3 p4 p5 p6 p7:Prop):Prop
 |mk:p0->p1->p2->p3->p4->p5->p6->p7->A8 p0 p1 p2 p3 p4 p5 p6 p7
inductive Ph(p0 p1 p2 p3 p4 p5 p6 p7 p8 p9:Prop):Prop
 |mk:p0->p1->p2->p3->p4->p5->p6->p7->p8->p9->Ph p0 p1 p2 p3 p4 p5 p6 p7 p8 p9
open Bw (bV cV bg cq Gives fh iz n_ iJ gC lI jW jz hm lW lZ nJ oa)
def aO(i:ag):dq:=PySem.Challenge.pw_bodieswing_s01_answers.main.body.getD i<|.Pass ⟨0,0,0,0⟩
def RI:bE ae:=λ_ v i=>v= .int i
def RB:bE df:=λ_ v b=>v= .bl b
inductive RP(K:aq)(H:Hp)(v:V)(p:ae×ae):Prop
 |mk:∀a,v= .ref a->cH K H a [.int p.1,.int p.2]->RP K H v p
theorem il:cY RI:=λ_ _ _ _ _ h=>h
theorem Ts:cY RB:=λ_ _ _ _ _ h=>h
theorem gO{K:aq}:cY<|RP K:=λ_ _ _ _ s dm=>by obtain⟨a,e,h⟩:=dm;exact⟨a,e,s.tup h⟩
inductive RN(K:aq)(k:aB)(H:Hp)(v:V)(a:ag):Prop
 |mk:∀p,RP K H v p->cq k p a->RN K k H v a
def RC(K:aq)(k:aB):bE ag:=λH v a=>RP K H v (bg k a)/\cV k a
theorem eP{K:aq}:cY<|RN K k:=λ_ _ _ _ s dW=>by obtain⟨p,h,r⟩:=dW;exact⟨p,gO.up s h,r⟩
theorem aI{K:aq}:cY<|RC K k:=λ_ _ _ _ s gw=>by obtain⟨h,r⟩:=gw;exact⟨gO.up s h,r⟩
theorem dS{K:aq}(hk:bV k)(h:RC K k H v a):RN K k H v a:=⟨_,h.1,cq.bg hk h.2⟩
theorem vC{K:aq}{o:au ag}(g:Gives k r o)(h:bQ C (RC K k) H o Q E):bQ C (RP K) H r Q E:=⟨λH' v y s e q=>by
                                                                                         have e2:=g.1;rw[e] at e2
                                                                                         cases eo:o with
                                                                                         |none=>rw[eo] at e2;cases e2
                                                                                         |some x=>
                                                                                          rw[eo] at e2
                                                                                          cases e2
                                                                                          exact h.ok H' v x s eo ⟨q,g.2 x eo⟩,λH' s e=>h.no H' s (by
                                                                                         have e2:=g.1;rw[e] at e2
                                                                                         cases eo:o with
                                                                                         |none=>rfl
                                                                                         |some x=>rw[eo] at e2;cases e2)⟩
theorem _root_.L2.bQ.xb(k:bQ C RB H (L b) Q E)(e:b=c):Q (.bl c) H:=k.ok H _ b sr J (by rw[e];rfl)
theorem _root_.L2.bQ.Hm(k:bQ C RI H (L b) Q E)(e:b=c):Q (.int c) H:=k.ok H _ b sr J (by rw[e];rfl)
def kf(k:aB):af<|ax×V:=aY "lanes" (.int k.lanes)<|aY "sign_bit" (.int (k.frac+k.expo:ag)) (aY "greatest" (.int<|Bw.aO k) (aY "least" (.int k.least)<|aY "digits" (.int (k.frac+1:ag)) []))
def RK(CK:ak)(k:aB):bE gF:=λH v _=>bV k/\ ∃a dx,v= .ref a/\H a=L (.ins CK dx<|kf k)
theorem aN:cY<|RK CK k:=λ_ _ _ _ s ju=>by obtain⟨h,a,dx,e,q⟩:=ju;exact⟨h,a,dx,e,s _ _ q⟩
theorem kf_no(k:aB){m:ax}(h1:¬m="sign_bit")(h2:¬m="greatest")(h3:¬m="least")(h4:¬m="digits")(h5:¬m="lanes"):(kf k).lookup m=ah:=by
 unfold kf;rw[du,ay h5,du,ay h1,du,ay h2,du,ay h3,du,ay h4];rfl
theorem zi(k:aB):(kf k).lookup ("digits":ax)=L (.int (k.frac+1:ag)):=by
 unfold kf;rw[du,ay dk,du,ay dk,du,ay dk,du,ay dk,du,aK J]
theorem zj(k:aB):(kf k).lookup ("least":ax)=L (.int k.least):=by
 unfold kf;rw[du,ay dk,du,ay dk,du,ay dk,du,aK J]
theorem DY(k:aB):(kf k).lookup ("greatest":ax)=L (.int<|Bw.aO k):=by
 unfold kf;rw[du,ay dk,du,ay dk,du,aK J]
theorem DZ(k:aB):(kf k).lookup ("sign_bit":ax)=L (.int (k.frac+k.expo:ag)):=by
 unfold kf;rw[du,ay dk,du,aK J]
theorem kf_lanes(k:aB):(kf k).lookup ("lanes":ax)=L (.int k.lanes):=by
 unfold kf;rw[du,aK J]
structure jg(K:aq)(mg:ax->au aH)(M CK:ak):Prop where
 sD:yf K M
 sX:mg "Failed"=L (.ref M)
 cl:j8 K CK
 nd:iD K CK "digits"
 nl:iD K CK "least"
 ng:iD K CK "greatest"
 ns:iD K CK "sign_bit"
 TY:iD K CK "lanes"
 Th:mg "Kind"=L (.ref CK)
 pz:∃a,mg "PLUS_ZERO"=L (.ref a)/\ ∀H,cH K H a [.int 0,.int 0]
 mz:∃a,mg "MINUS_ZERO"=L (.ref a)/\ ∀H,cH K H a [.int 0,.int 1]
 yH:mg "abs"=ah
 max:mg "max"=ah
abbrev rf:dq:=aO 6
abbrev zS:dq:=aO 7
abbrev Nq:dq:=aO 8
abbrev q_:dq:=aO 9
abbrev IC:dq:=aO 10
abbrev Nr:dq:=aO 11
abbrev Nt:dq:=aO 12
abbrev sK(j:ag):dq:=sQ (aO 13) j
section
variable{P:cO}{w:World}{K:aq}{mg:ax->au aH}{base:b9}{M CK:ak}
abbrev rj(K:aq)(M:ak):Sp:=cU M (aE (RP K) cg) RB λx=>L<|hm x.1
theorem VB:bF ["x"] ["x"]<|ba rf:=fs
theorem Ic(F:bh K "has_minus" "has_minus" rf f fd):aD P w K mg base ib 1 f fd ["x"]<|rj K M:=by
 refine F.ok VB (λvs H Q E h=>?_) λcj A bA s H vs Q E hr h=>?_
 ·obtain⟨t,⟨v,r,rfl,_,rfl⟩,_⟩:=h
  rfl
 ·obtain⟨⟨p,_⟩,⟨v,r,rfl,⟨a,rfl,hp⟩,rfl⟩,k⟩:=h
  refine⟨_,aR (bp (M0 (kE lU (aX<|O 0) a_<|cW _) (tD (xG (kE iY (aX<|O 0) a_<|cW _) (tD<|kE iY (aX<|O 0) a_<|cW _))))),?_⟩;refine⟨_,J,a,_,_,_,J,J,hp,J,_,_,J,J,_,J,d6 (λc=>?_) λc=>?_⟩
  ·refine k.xb ?_
   exact dF (.inl<|dG c)
  ·refine⟨_,J,a,_,_,_,J,J,hp,J,_,_,J,J,_,J,d6 (λd=>?_) λd=>?_⟩
   ·refine⟨_,J,a,_,_,_,J,J,hp,J,_,_,J,J,k.xb ?_⟩
    have d:p.1=0:=dG d;show decide (p.1<0\/(p.1=0/\p.2=1))=decide (p.2=1);rw[K3]
    lia
   ·refine k.xb ?_
    have c:¬p.1<0:=λz=>c<|dF z;have d:¬p.1=0:=λz=>d<|dF z;exact hX (by show¬(p.1<0\/(p.1=0/\p.2=1));omega)
abbrev rm(K:aq)(M:ak):Sp:=cU M (aE (RP K) cg) (RP K) λx=>L<|gC x.1
theorem scOpp:bF ["x"] ["x"]<|ba zS:=fs
theorem zF{f:ak}{fd:c7}(F:bh K "opposite" "opposite" zS f fd):aD P w K mg base ib 1 f fd ["x"]<|rm K M:=by
 refine F.ok scOpp (λvs H Q E h=>?_) λcj A bA s H vs Q E hr h=>?_
 ·obtain⟨t,⟨v,r,rfl,_,rfl⟩,_⟩:=h
  rfl
 ·obtain⟨⟨p,_⟩,⟨v,r,rfl,⟨a,rfl,hp⟩,rfl⟩,k⟩:=h
  refine⟨_,aG (dU (dD iY (aX<|O 0) a_<|cW _) (aR (bp<|fV (bK a_<|bO iy a_ (aX<|O 0)))) d7)
   (aR (bp<|fV (bK (xH xY (aX<|O 0)) (aX<|O 0)))),?_⟩
  refine⟨_,J,a,_,_,_,J,J,hp,J,_,_,J,J,_,J,d6 (λc=>?_) λc=>?_⟩
  ·have c:p.1=0:=dG c
   refine⟨_,J,a,_,_,_,J,J,hp,J,_,_,J,J,(by show 2<=bI;decide),λq hq=>k.ok _ _ _ (az.new hq) J ⟨q,J,cH.of ?_⟩⟩;rw[bw];unfold gC;rw[aK c]
  ·have c:¬p.1=0:=λz=>c<|dF z
   refine⟨_,J,a,_,_,_,J,J,hp,J,_,J,_,J,a,_,_,_,J,J,hp,J,(by show 2<=bI;decide),λq hq=>k.ok _ _ _ (az.new hq) J ⟨q,J,cH.of ?_⟩⟩;rw[bw];unfold gC;rw[ay c]
structure Gf(K:aq)(mg:ax->au aH)(x:ax)(st:dq)(f:ak)(fd:c7)(ps:af ax):Prop where
 F:bh K x x st f fd
 m:mg x=L (.ref f)
 b:Binds K fd ps []
section
variable{C:ak}{E:XK}{σ:L2.St}{H:Hp}{te tf:TE}{p q:ae×ae}
theorem tq(h:NT C E (RP K) (L p) σ H te):NT C E RB (L<|hm p) σ H (d_ (rj K C) [] E<|aU te b8):=cT (f:=λx=>L<|hm x.1)<|aF gO h bR
theorem zD(h:NT C E (RP K) (L p) σ H te):NT C E (RP K) (L<|gC p) σ H (d_ (rm K C) [] E<|aU te b8):=cT (f:=λx=>L<|gC x.1)<|aF gO h bR
end
abbrev B0(K:aq)(M:ak):Sp:=cU M (aE (RP K) cg) (RP K) λx=>L<|lI x.1
theorem scBare:bF ["x"] ["x"]<|ba Nq:=fs
theorem ok_bare(F:bh K "without_sign" "without_sign" Nq f fd)(G1:Gf K mg "has_minus" rf f1 bZ ["x"])(G2:Gf K mg "opposite" zS f2 di ["x"]):aD P w K mg base ib 2 f fd ["x"]<|B0 K M:=by
 have O1:aD P w K mg base ib 1 f1 bZ _<|rj K M:=Ic G1.F;have O2:aD P w K mg base ib 1 f2 di _<|rm K M:=zF G2.F;refine F.ok scBare (λvs H Q E h=>?_) λcj A bA s H vs Q E hr h=>?_
 ·obtain⟨t,⟨v,r,rfl,_,rfl⟩,_⟩:=h
  rfl
 ·obtain⟨⟨p,_⟩,⟨v,r,rfl,⟨a,rfl,hp⟩,rfl⟩,k⟩:=h
  refine⟨_,aR<|bp (mJ (i7<|cM O1 hr J G1.m G1.F.kp G1.b .nil xF (bz<|O 0)) (cM O2 hr J G2.m G2.F.kp G2.b .nil xF (bz<|O 0))<|O 0),?_⟩;have vx:NT M E0 _ _ [L _] H<|aw 0:=aj J gO ⟨a,J,hp⟩;refine(tq vx).go λv U s1 q=>?_;refine⟨hm p,q,d6 (λc=>?_) λc=>?_⟩
  ·refine(zD<|vx.at_ s1).go λv2 H2 s2 q2=>k.ok _ _ _ (s1.trans s2) J ?_
   unfold lI;rw[aK c];exact q2
  ·refine⟨_,J,k.ok _ _ _ s1 J ⟨a,J,?_⟩⟩
   unfold lI;rw[ay c];exact s1.tup hp
def Sm(p:ae×ae):Prop:=p.1.natAbs<2^120/\ -3000<=p.2/\p.2<=3000
def yu(K:aq):bE<|ae×ae:=λH v p=>RP K H v p/\Sm p
theorem D_:cY<|yu K:=λ_ _ _ _ s mX=>by obtain⟨h,r⟩:=mX;exact⟨gO.up s h,r⟩
abbrev spBelow(K:aq)(M:ak):Sp:=cU M (aE (yu K)<|aE (yu K) cg) RB λx=>L<|jW x.1 x.2.1
theorem Vw:bF ["x","y","gap"] ["x","y"]<|ba q_:=fs
theorem Hw(h:n<2^120):n<2^250:=gy h (ka (by lia)<|by lia)
theorem ok_below{f:ak}{fd:c7}(F:bh K "is_below" "is_below" q_ f fd):aD P w K mg base ib 1 f fd ["x","y"]<|spBelow K M:=by
 refine F.ok Vw (λvs H Q E h=>?_) λcj A bA s H vs Q E hr h=>?_
 ·obtain⟨t,⟨v,r,rfl,_,v2,r2,rfl,_,rfl⟩,_⟩:=h
  rfl
 ·obtain⟨⟨p,q,_⟩,⟨v,r,rfl,⟨⟨a,rfl,hp⟩,sp⟩,v2,r2,rfl,⟨⟨b,rfl,hq⟩,sq⟩,rfl⟩,k⟩:=h
  refine⟨_,aG (bC 2 Vw.nd (bO iy (aX<|O 0) (aX<|O 1)))
   (aG (dU (dD vh (O 2) a_<|cW _) (aR (bp (kE lU (bO lV (aX<|O 0)<|O 2) (aX<|O 1)<|cW _))) d7)
   (aR<|bp (kE lU (aX<|O 0) (bO lV (aX<|O 1) (xH xY<|O 2))<|cW _))),?_⟩
  have sp:Sm p:=sp;have sq:Sm q:=sq;unfold Sm at sp sq;refine⟨_,J,a,_,_,_,J,J,hp,J,_,J,b,_,_,_,J,J,hq,J,_,_,J,J,?_⟩;refine⟨_,J,_,_,J,J,_,J,d6 (λc=>?_) λc=>?_⟩
  ·have c:0<p.2-q.2:=dG c
   refine⟨_,J,a,_,_,_,J,J,hp,J,_,J,_,_,J,J,⟨?_,?_,Hw sp.1⟩,_,J,b,_,_,_,J,J,hq,J,_,_,J,J,k.xb ?_⟩
   ·show 0<=p.2-q.2;omega
   ·show p.2-q.2<=100000;omega
   ·show jW p q=_
    unfold jW;rw[aK c]
  ·have c:¬0<p.2-q.2:=λz=>c<|dF z
   refine⟨_,J,a,_,_,_,J,J,hp,J,_,J,b,_,_,_,J,J,hq,J,_,J,_,J,_,_,J,J,⟨?_,?_,Hw sq.1⟩,_,_,J,J,k.xb ?_⟩
   ·show 0<= -(p.2-q.2);omega
   ·show-(p.2-q.2)<=100000;omega
   ·show jW p q=_
    unfold jW;rw[ay c]
abbrev Jf(K:aq)(M:ak):Sp:=cU M (aE (RP K)<|aE (RP K) cg) (RP K) λx=>L<|jz x.1 x.2.1
theorem scJz:bF ["x","y"] ["x","y"]<|ba IC:=fs
theorem MV(F:bh K "joined_zero" "joined_zero" IC f fd)(T:jg K mg M CK)(G1:Gf K mg "has_minus" rf f1 bZ ["x"]):aD P w K mg base ib 2 f fd ["x","y"]<|Jf K M:=by
 have O1:aD P w K mg base ib 1 f1 bZ ["x"]<|rj K M:=Ic G1.F;obtain⟨za,zm,zq⟩:=T.pz;obtain⟨ya,ym,yq⟩:=T.mz;refine F.ok scJz (λvs H Q E h=>?_) λcj A bA s H vs Q E hr h=>?_
 ·obtain⟨t,⟨v,r,rfl,_,v2,r2,rfl,_,rfl⟩,_⟩:=h
  rfl
 ·obtain⟨⟨p,q,_⟩,⟨v,r,rfl,⟨a,rfl,hp⟩,v2,r2,rfl,⟨b,rfl,hq⟩,rfl⟩,k⟩:=h
  refine⟨_,aR (bp<|mJ (dD UM (cM O1 hr J G1.m G1.F.kp G1.b .nil xF (bz<|O 0)) (cM O1 hr J G1.m G1.F.kp G1.b .nil xF (bz<|O 1))<|cW _) (dH J ym (v:=.ref ya) J)<|dH J zm (v:=.ref za) J),?_⟩;have vx:NT M E0 _ _ [L _,L<|.ref b] H<|aw 0:=aj J gO ⟨a,J,hp⟩;have vy:NT M E0 (RP K) _ [L<|.ref a,L _] H<|aw 1:=aj J gO ⟨b,J,hq⟩;refine(tq vx).go λv U s1 q1=>?_;refine(tq<|vy.at_ s1).go λv2 H2 s2 q2=>?_;refine⟨_,_,q1,q2,_,J,d6 (λc=>?_) λc=>?_⟩
  ·refine k.ok _ _ _ (s1.trans s2) J ⟨ya,J,?_⟩
   show cH K H2 ya [.int 0,.int (if(hm p !=hm q)=ao then 1 else 0)];rw[aK c];exact yq H2
  ·refine k.ok _ _ _ (s1.trans s2) J ⟨za,J,?_⟩
   show cH K H2 za [.int 0,.int (if(hm p !=hm q)=ao then 1 else 0)];rw[ay c];exact zq H2
def C2(K:aq):bE<|ae×ae:=λH v p=>RP K H v p/\p.1.natAbs<2^64
theorem sY:cY<|C2 K:=λ_ _ _ _ s vW=>by obtain⟨h,r⟩:=vW;exact⟨gO.up s h,r⟩
abbrev We(K:aq)(M:ak):Sp:=cU M (aE (C2 K)<|aE (C2 K) cg) (RP K) λx=>L<|iJ x.1 x.2.1
theorem Vx:bF ["x","y","m"] ["x","y"]<|ba Nr:=fs
theorem ML{C:ak}{E:XK}{H:Hp}(h:NT C E (RP K) (L p) σ H te)(h2:NT C E (RP K) (L q) σ H tf):NT C E (RP K) (L<|jz p q) σ H<|d_ (Jf K C) [] E (aU te<|aU tf b8):=cT (f:=λx=>L<|jz x.1 x.2.1) (aF gO h<|aF gO h2 bR)
theorem Ib(F:bh K "exact_product" "exact_product" Nr f fd)(T:jg K mg M CK)(G1:Gf K mg "has_minus" rf f1 bZ ["x"])(G2:Gf K mg "joined_zero" IC f2 di ["x","y"]):aD P w K mg base ib 3 f fd ["x","y"]<|We K M:=by
 have O2:aD P w K mg base ib 2 f2 di ["x","y"]<|Jf K M:=MV G2.F T G1;refine F.ok Vx (λvs H Q E h=>?_) λcj A bA s H vs Q E hr h=>?_
 ·obtain⟨t,⟨v,r,rfl,_,v2,r2,rfl,_,rfl⟩,_⟩:=h
  rfl
 ·obtain⟨⟨p,q,_⟩,⟨v,r,rfl,⟨⟨a,rfl,hp⟩,sp⟩,v2,r2,rfl,⟨⟨b,rfl,hq⟩,sq⟩,rfl⟩,k⟩:=h
  refine⟨_,aG (bC 2 Vx.nd (bO Ey (aX<|O 0) (aX<|O 1)))
   (aG (dU (dD iY (O 2) a_<|cW _) (aR (bp<|cM O2 hr J G2.m G2.F.kp G2.b .nil xF (bK (O 0)<|O 1))) d7)
   (aR<|bp (fV<|bK (O 2) (bO fC (aX<|O 0) (aX<|O 1))))),?_⟩
  have sp:p.1.natAbs<2^64:=sp;refine⟨_,J,a,_,_,_,J,J,hp,J,_,J,b,_,_,_,J,J,hq,J,_,_,J,J,.inl ⟨?_,?_⟩,?_⟩
  ·omega
  ·omega
  refine⟨_,J,_,_,J,J,_,J,d6 (λc=>?_) λc=>?_⟩
  ·have c:=dG c
   have vx:NT M E0 (RP K) (L p) [L<|.ref a,L<|.ref b,L (.int<|p.1*q.1)] H<|aw 0:=aj J gO ⟨a,J,hp⟩;have vy:NT M E0 (RP K) (L q) [L<|.ref a,L<|.ref b,L (.int<|p.1*q.1)] H<|aw 1:=aj J gO ⟨b,J,hq⟩;refine(ML vx vy).go λv U s1 q1=>k.ok _ _ _ s1 J ?_;unfold iJ;rw[aK c];exact q1
  ·have c:=λz=>c<|dF z
   refine⟨_,J,_,J,a,_,_,_,J,J,hp,J,_,J,b,_,_,_,J,J,hq,J,_,_,J,J,(by show 2<=bI;decide),λl hl=>k.ok _ _ _ (az.new hl) J ⟨l,J,cH.of ?_⟩⟩;rw[bw];unfold iJ;rw[ay c]
end
end BW
namespace BW
open PySem PySem.Spec PyProof.Rows L2
open Bw (bV cV bg cq Gives fh iz n_ iJ gC lI jW jz hm lW lZ nJ oa fQ c8)
theorem wL(i:ae):kG i=fQ i:=by
 unfold kG fQ;by_cases h:i=0
 ·rw[aK<|by simp[h],aK h]
 ·rw[ay<|by simpa using h,ay h]
def Kv:bE ae:=λ_ v i=>v= .int i/\fQ i<=8000
def F2:bE ae:=λ_ v i=>v= .int i/\ -9000<=i/\i<=9000
theorem D':cY Kv:=λ_ _ _ _ _ h=>h
theorem Mo:cY F2:=λ_ _ _ _ _ h=>h
section
variable{P:cO}{w:World}{K:aq}{mg:ax->au aH}{base:b9}{M CK:ak}
theorem D1(hk:bV k):24<=((k.frac+1:ag):ae)/\((k.frac+1:ag):ae)<=53/\ -1074<=k.least/\k.least<= -149/\Bw.aO k<=971/\104<=Bw.aO k:=by rcases hk with rfl|rfl<;>decide
theorem join_set{c:TT}(b:df)(x y:ae)(hc:∀Q,Q b H->c σ H Q)(ht:b=ao-> ∀Q,Q (.int x) H->te σ H Q)(hy:b=aM->σ.set i (L<|.int y)=σ)
 (h:u D (σ.set i (L<|.int (if b=ao then x else y))) H):oY (z8 c (j7 te<|eI i) Jw) u D σ H:=by
 refine hc _ ?_
 cases b with
 |true=>
  exact ht J _ h
 |false=>
  rw[ay dc,hy J] at h;exact h
theorem Nn(kk:bQ M (RP K) H r Q E)(e:r=if Bw.aO k<q then ah else L (kept,q)):(Bw.aO k<q->E (.ref M) ah H)/\(¬Bw.aO k<q-> ∀p,H p=ah->Q (.ref p) (aC H p<|.tup [.int kept,.int q])):=by
 refine⟨λc=>kk.no H (az.refl H)<|by rw[e,aK c],λc p hp=>kk.ok _ _ (kept,q) (az.new hp) (by rw[e,ay c]) ⟨p,J,cH.of bw⟩⟩
abbrev vM(K:aq)(M CK:ak)(k:aB):Sp:=cU M (aE (RK CK k) (aE Kv<|aE F2 cg)) (RP K) λx=>fh k x.2.1 x.2.2.1
theorem zV:bF ["self","m","e","shift","kept"] ["self","m","e"] (ba<|sK 4):=fs
theorem Eu{f:ak}{fd:c7}(F:bh K "rounded" "Kind.rounded" (sK 4) f fd)(T:jg K mg M CK)(k:aB):aD P w K mg base (aQ P w M) 1 f fd ["self","m","e"]<|vM K M CK k:=by
 obtain⟨za,zm,zq⟩:=T.pz;obtain⟨ya,ym,yq⟩:=T.mz;refine F.p3 zV λH Q E _ m e v v2 v3 hr qN gY kP kk=>?_;obtain⟨hk,a,dx,rfl,ha⟩:=qN;obtain⟨rfl,bm⟩:=gY;obtain⟨rfl,be⟩:=kP
 refine⟨_,aG (bC 3 zV.nd (bO iy (EC<|O 1) (bu<|O 0)))
  (aG (dU (dD lU (bO fC (O 2)<|O 3) (bu<|O 0)<|cW _) (aR (bC 3 zV.nd<|bO iy (bu<|O 0)<|O 2)) d7)
  (aG (dU (dD vh (O 3) a_<|cW _)
    (aG (bC 4 zV.nd (bO MY (bO fC (bO iy (bO fC (O 1) (bO lV a_<|bO iy (O 3) a_)) a_)<|bO op_and1 (bO MY (O 1)<|O 3) a_)<|O 3))
    (aG (dU (dD iY (O 4) a_<|cW _) (aR (bp (mJ (dD lU (O 1) a_<|cW _) (dH J ym (v:=.ref ya) J)<|dH J zm (v:=.ref za) J))) d7)
    (aR (dU (dD vh (EC<|O 4) (bu<|O 0)<|cW _) (aG (UZ (i:=4) zV.nd J (CL J) a_ iop_shr) (aR<|UZ (i:=3) zV.nd J (CL J) a_ L0)) d7))))
    (aR (bC 4 zV.nd<|bO lV (O 1) (xH xY<|O 3))))
  (aG (dU (dD vh (bO fC (O 2)<|O 3) (bu<|O 0)<|cW _) (aR<|Il J T.sD Iq J T.sX) d7)
  (aR<|bp (fV<|bK (O 4) (bO fC (O 2)<|O 3)))))),?_⟩
 have kb:=D1 hk;refine⟨_,J,_,J,_,J,a,CK,dx,_,_,J,ha,T.cl,T.nd,zi k,_,_,J,J,?_⟩;have kk:bQ M (RP K) H (fh k m e) Q E:=kk;have bm:fQ m<=8000:=bm;have be: -9000<=e/\e<=9000:=be;dsimp only[eI];refine join_set (i:=3) (decide (e+((fQ m:ae)-((k.frac+1:ag):ae))<k.least)) (k.least-e) ((fQ m:ae)-((k.frac+1:ag):ae)) (λQ q=>?_) (λ_ Q q=>?_) (λ_=>?_) ?_
 ·refine⟨_,J,_,J,_,_,J,J,_,J,a,CK,dx,_,_,J,ha,T.cl,T.nl,zj k,_,_,J,J,_,J,?_⟩
  rw[wL];exact q
 ·exact⟨_,J,a,CK,dx,_,_,J,ha,T.cl,T.nl,zj k,_,J,_,_,J,J,q⟩
 ·show [L<|V.ref a,L<|V.int m,L<|V.int e,L (V.int<|(fQ m:ae)-((k.frac+1:ag):ae)),ah]=[L<|V.ref a,L<|V.int m,L<|V.int e,L (V.int<|(kG m:ae)-((k.frac+1:ag):ae)),ah]
  rw[wL]
 have ec:(if decide (e+((fQ m:ae)-((k.frac+1:ag):ae))<k.least)=ao then k.least-e else(fQ m:ae)-((k.frac+1:ag):ae))=c8 k m e:=by
  unfold c8;by_cases c:e+((fQ m:ae)-((k.frac+1:ag):ae))<k.least
  ·rw[aK c,aK<|dF c]
  ·rw[ay c,ay λz=>c<|dG z]
 have bc:c8 k m e<=50000/\ -50000<=c8 k m e/\(c8 k m e<=0->fQ m<=53):=by
  unfold c8
  split<;>omega
 rw[ec];refine⟨_,J,_,_,J,J,_,J,d6 (λc=>?_) λc=>?_⟩
 ·have c:0<c8 k m e:=dG c
  have c1:(c8 k m e-1).toNat=(c8 k m e-1).toNat:=J;refine⟨_,J,_,J,_,_,J,J,_,_,J,J,⟨?_,?_,?_⟩,_,_,J,J,_,_,J,J,_,J,_,J,_,_,J,J,?_,_,J,J,_,_,J,J,_,J,_,_,J,J,?_,?_⟩
  ·show 0<=c8 k m e-1;omega
  ·show c8 k m e-1<=100000;omega
  ·show(1:ae).natAbs<2^250
   exact Nat.one_lt_two_pow<|by lia
  ·show 0<=c8 k m e;omega
  ·show 0<=c8 k m e;omega
  have er:fh k m e=(let kept:=(m+2^(c8 k m e-1).toNat-1+(m/2^(c8 k m e).toNat)%2)/2^(c8 k m e).toNat
   if kept=0 then L (0,if m<0 then 1 else 0)
   else if k.frac+1<fQ kept then(if Bw.aO k<e+(c8 k m e+1) then ah else L (kept/2,e+(c8 k m e+1)))
   else(if Bw.aO k<e+c8 k m e then ah else L (kept,e+c8 k m e))):=by
   unfold fh;rw[aK c]
  have en:(m+1*2^(c8 k m e-1).toNat-1+(m/2^(c8 k m e).toNat)%2)/2^(c8 k m e).toNat=(m+2^(c8 k m e-1).toNat-1+(m/2^(c8 k m e).toNat)%2)/2^(c8 k m e).toNat:=by rw[Af]
  simp only at er;show oY _ _ _ [L<|V.ref a,L<|V.int m,L<|V.int e,L (V.int<|c8 k m e),L<|V.int _] H;rw[en];generalize(m+2^(c8 k m e-1).toNat-1+(m/2^(c8 k m e).toNat)%2)/2^(c8 k m e).toNat=n at*;refine⟨_,J,_,_,J,J,_,J,d6 (λc2=>?_) λc2=>?_⟩
  ·have c2:n=0:=dG c2
   rw[aK c2] at er;refine⟨_,J,_,_,J,J,_,J,d6 (λc3=>?_) λc3=>?_⟩
   ·have c3:m<0:=dG c3
    rw[aK c3] at er;exact kk.ok H _ _ (az.refl H) er ⟨ya,J,yq H⟩
   ·have c3:¬m<0:=λz=>c3<|dF z
    rw[ay c3] at er;exact kk.ok H _ _ (az.refl H) er ⟨za,J,zq H⟩
  ·have c2:¬n=0:=λz=>c2<|dF z
   rw[ay c2] at er;refine⟨_,J,_,J,_,J,a,CK,dx,_,_,J,ha,T.cl,T.nd,zi k,_,_,J,J,_,J,d6 (λc3=>?_) λc3=>?_⟩
   ·have c3:((k.frac+1:ag):ae)<(kG n:ae):=dG c3
    rw[wL] at c3;rw[aK om] at er;obtain⟨z1,z2⟩:=Nn kk er;refine⟨_,J,_,_,J,J,(by show(0:ae)<=1;decide),_,J,_,_,J,J,_,J,_,J,_,_,J,J,_,J,a,CK,dx,_,_,J,ha,T.cl,T.ng,DY k,_,_,J,J,_,J,d6 (λc4=>z1<|dG c4) λc4=>?_⟩;exact⟨_,J,_,J,_,J,_,_,J,J,(by show 2<=bI;decide),z2 λz=>c4<|dF z⟩
   ·have c3:¬((k.frac+1:ag):ae)<(kG n:ae):=λz=>c3<|dF z
    rw[wL] at c3;rw[ay om] at er;obtain⟨z1,z2⟩:=Nn kk er;refine⟨_,J,_,J,_,_,J,J,_,J,a,CK,dx,_,_,J,ha,T.cl,T.ng,DY k,_,_,J,J,_,J,d6 (λc4=>z1<|dG c4) λc4=>?_⟩;exact⟨_,J,_,J,_,J,_,_,J,J,(by show 2<=bI;decide),z2 λz=>c4<|dF z⟩
 ·have c:¬0<c8 k m e:=λz=>c<|dF z
  have er:fh k m e=if Bw.aO k<e+c8 k m e then ah else L (m*2^(-(c8 k m e)).toNat,e+c8 k m e):=by
   unfold fh;rw[ay c]
  obtain⟨z1,z2⟩:=Nn kk er;refine⟨_,J,_,J,_,J,_,_,J,J,⟨?_,?_,?_⟩,?_⟩
  ·show 0<= -(c8 k m e);omega
  ·show-(c8 k m e)<=100000;omega
  ·show m.natAbs<2^250
   have ZC:=bc.2.2 om;by_cases z:m=0
   ·rw[z];exact CJ _
   ·rw[Bw.AM z] at ZC
    exact gy Bw.log2_lt (ka (by lia)<|by lia)
  refine⟨_,J,_,J,_,_,J,J,_,J,a,CK,dx,_,_,J,ha,T.cl,T.ng,DY k,_,_,J,J,_,J,d6 (λc4=>z1<|dG c4) λc4=>?_⟩;exact⟨_,J,_,J,_,J,_,_,J,J,(by show 2<=bI;decide),z2 λz=>c4<|dF z⟩
end
end BW
namespace BW
open PySem PySem.Spec PyProof.Rows L2
open Bw (bV cV bg cq Gives fh iz n_ iJ gC lI jW jz hm lW lZ nJ oa fQ c8)
structure Gm(K:aq)(C:ak)(x cQ:ax)(st:dq)(f:ak)(fd:c7)(ps:af ax):Prop where
 F:bh K x cQ st f fd
 aJ:pq K C x f
 b:Binds K fd ps []
theorem yL(h:i.natAbs<2^n):fQ i<=n:=by rw[<-wL];exact Gg h
theorem vD{m:ax}(h1:¬m="sign_bit")(h2:¬m="greatest")(h3:¬m="least")(h4:¬m="digits")(h5:¬m="lanes")(h:RK CK k H v u):∃a dx fs,v= .ref a/\H a=L (.ins CK dx fs)/\fs.lookup m=ah:=by
 sleep 3;obtain⟨_,a,dx,e,q⟩:=h;sleep 4;exact⟨a,dx,_,e,q,kf_no k h1 h2 h3 h4 h5⟩
section
variable{P:cO}{w:World}{K:aq}{mg:ax->au aH}{base:b9}{M CK:ak}
section
variable{E:XK}{σ:L2.St}{H:Hp}{te t1 t2 t3:TE}{k:aB}
theorem BC(h0:NT M E (RK CK k) (L ()) σ H te)(h1:NT M E Kv (L m) σ H t1)(h2:NT M E F2 (L e) σ H t2):NT M E (RP K) (fh k m e) σ H<|eE CK "rounded" (vM K M CK k) [] E te (aU t1<|aU t2 b8):=oJ (f:=λx=>fh k x.2.1 x.2.2.1) h0 aN (λ_ _=>vD dk dk dk dk dk) (aF D' h1<|aF Mo h2 bR)
end
abbrev Wi(K:aq)(M CK:ak)(k:aB):Sp:=cU M (aE (RK CK k) (aE (yu K)<|aE (yu K) cg)) (RP K) λx=>iz k x.2.1 x.2.2.1
theorem BR:bF ["self","x","y","gap","m","e"] ["self","x","y"] (ba<|sK 5):=fs
theorem V0(hi:i.natAbs<2^120)(hj:j.natAbs<2^120)(hg:g<=6000):fQ (i*2^g+j)<=8000:=by
 refine dN (yL (n:=120+g+1) ?_)<|by lia
 have h1:(i*2^g).natAbs<2^(120+g):=by
  simp only[FF,J2,jw];exact CH hi<|CJ g
 have h2:j.natAbs<2^(120+g):=gy hj (ka (by lia)<|by lia);omega
theorem BE{f f1 f2:ak}{fd bZ di:c7}(F:bh K "plus" "Kind.plus" (sK 5) f fd)(T:jg K mg M CK)(G1:Gf K mg "has_minus" rf f1 bZ ["x"])(G2:Gm K CK "rounded" "Kind.rounded" (sK 4) f2 di ["self","m","e"])(k:aB):aD P w K mg base (aQ P w M) 2 f fd ["self","x","y"]<|Wi K M CK k:=by
 have O1:aD P w K mg base (aQ P w M) 1 f1 bZ ["x"]<|rj K M:=(Ic G1.F).gz;have O2:aD P w K mg base (aQ P w M) 1 f2 di ["self","m","e"]<|vM K M CK k:=Eu G2.F T k;obtain⟨za,zm,zq⟩:=T.pz;obtain⟨ya,ym,yq⟩:=T.mz;refine F.p3 BR λH Q E _ p q v v2 v3 hr qN gY kP kk=>?_;obtain⟨hk,c,dx,rfl,hc⟩:=qN;obtain⟨⟨a,rfl,hp⟩,sp⟩:=gY;obtain⟨⟨b,rfl,hq⟩,sq⟩:=kP
 refine⟨_,aG (bC 3 BR.nd (bO iy (aX<|O 1) (aX<|O 2)))
  (aG (dU (dD vh (O 3) a_<|cW _)
    (aG (bC 4 BR.nd (bO fC (bO lV (aX<|O 1)<|O 3) (aX<|O 2))) (aR<|bC 5 BR.nd (aX<|O 2)))
    (aG (bC 4 BR.nd (bO fC (aX<|O 1) (bO lV (aX<|O 2) (xH xY<|O 3)))) (aR<|bC 5 BR.nd (aX<|O 1))))
  (aG (dU (dD iY (O 4) a_<|cW _) (aR<|bp (mJ (PW.pt (pw_and (i7<|cM O1 hr J G1.m G1.F.kp G1.b .nil aA (bz<|O 1))<|pw_and1 (i7<|cM O1 hr J G1.m G1.F.kp G1.b .nil aA (bz<|O 2)))) (dH J ym (v:=.ref ya) J)<|dH J zm (v:=.ref za) J)) d7)
  (aR (bp<|bW (O 0) T.cl G2.aJ O2 hr G2.b .nil aA (bK (O 4)<|O 5))))),?_⟩
 have sp:Sm p:=sp;have sq:Sm q:=sq;have kk:bQ M (RP K) H (iz k p q) Q E:=kk;unfold Sm at sp sq;have dr:∀(m e g:ae)(r:au<|ae×ae),r=iz k p q->r=(if m=0 then L (0,if(hm p&&hm q)=ao then 1 else 0) else fh k m e)->fQ m<=8000-> -9000<=e/\e<=9000->(m=0-> ∀U,az H U->if(hm p&&hm q)=ao then Q (.ref ya) U else Q (.ref za) U)/\(¬m=0->bQ M (RP K) H (fh k m e) Q E):=λm e g r e1 e2 _ _=>by
  rw[<-e1,e2] at kk;constructor
  ·intro z U s1
   rw[aK z] at kk;refine d6 (λc=>?_) λc=>?_
   ·rw[aK c] at kk
    exact kk.ok U _ _ s1 J ⟨ya,J,yq U⟩
   ·rw[ay c] at kk
    exact kk.ok U _ _ s1 J ⟨za,J,zq U⟩
  ·intro z
   rw[ay z] at kk;exact kk
 refine⟨_,J,a,_,_,_,J,J,hp,J,_,J,b,_,_,_,J,J,hq,J,_,_,J,J,?_⟩;refine⟨_,J,_,_,J,J,_,J,d6 (λcc=>?_) λcc=>?_⟩
 ·have cc:0<p.2-q.2:=dG cc
  refine⟨_,J,a,_,_,_,J,J,hp,J,_,J,_,_,J,J,⟨?_,?_,Hw sp.1⟩,_,J,b,_,_,_,J,J,hq,J,_,_,J,J,?_⟩
  ·show 0<=p.2-q.2;omega
  ·show p.2-q.2<=100000;omega
  refine⟨_,J,b,_,_,_,J,J,hq,J,?_⟩;have bl:fQ (p.1*2^(p.2-q.2).toNat+q.1)<=8000:=V0 sp.1 sq.1 om;obtain⟨f1,f2⟩:=dr (p.1*2^(p.2-q.2).toNat+q.1) q.2 0 _ J (by unfold iz;rw[aK cc]) bl om;refine⟨_,J,_,_,J,J,_,J,d6 (λc2=>?_) λc2=>?_⟩
  ·have vx:NT M E (RP K) (L p) [L<|.ref c,L<|.ref a,L<|.ref b,L (.int<|p.2-q.2),L (.int<|p.1*2^(p.2-q.2).toNat+q.1),L<|.int q.2] H<|aw 1:=aj J gO ⟨a,J,hp⟩
   have vy:NT M E (RP K) (L q) [L<|.ref c,L<|.ref a,L<|.ref b,L (.int<|p.2-q.2),L (.int<|p.1*2^(p.2-q.2).toNat+q.1),L<|.int q.2] H<|aw 2:=aj J gO ⟨b,J,hq⟩;refine(tq vx).go λv U s1 q1=>?_;refine⟨hm p,q1,?_⟩
   cases e1:hm p with
   |false=>
    refine pX ?_;have:=f1 (dG c2) U s1;rw[e1] at this;exact this
   |true=>
    refine jJ ?_;refine(tq<|vy.at_ s1).go λv2 H2 s2 q2=>?_;refine⟨hm q,q2,?_⟩;have:=f1 (dG c2) H2<|s1.trans s2;rw[e1,Xx] at this;exact this
  ·exact(f2 λz=>c2<|dF z).by (BC (aj J aN ⟨hk,c,dx,J,hc⟩) (aj J D' ⟨J,bl⟩)<|aj J Mo ⟨J,om⟩)
 ·have cc:¬0<p.2-q.2:=λz=>cc<|dF z
  refine⟨_,J,a,_,_,_,J,J,hp,J,_,J,b,_,_,_,J,J,hq,J,_,J,_,J,_,_,J,J,⟨?_,?_,Hw sq.1⟩,_,_,J,J,?_⟩
  ·show 0<= -(p.2-q.2);omega
  ·show-(p.2-q.2)<=100000;omega
  refine⟨_,J,a,_,_,_,J,J,hp,J,?_⟩;have bl:fQ (p.1+q.1*2^(-(p.2-q.2)).toNat)<=8000:=by rw[Pt];exact V0 sq.1 sp.1 om
  obtain⟨f1,f2⟩:=dr (p.1+q.1*2^(-(p.2-q.2)).toNat) p.2 0 _ J (by unfold iz;rw[ay cc]) bl om;refine⟨_,J,_,_,J,J,_,J,d6 (λc2=>?_) λc2=>?_⟩
  ·have vx:NT M E (RP K) (L p) [L<|.ref c,L<|.ref a,L<|.ref b,L (.int<|p.2-q.2),L (.int<|p.1+q.1*2^(-(p.2-q.2)).toNat),L<|.int p.2] H<|aw 1:=aj J gO ⟨a,J,hp⟩
   have vy:NT M E (RP K) (L q) [L<|.ref c,L<|.ref a,L<|.ref b,L (.int<|p.2-q.2),L (.int<|p.1+q.1*2^(-(p.2-q.2)).toNat),L<|.int p.2] H<|aw 2:=aj J gO ⟨b,J,hq⟩;refine(tq vx).go λv U s1 q1=>?_;refine⟨hm p,q1,?_⟩
   cases e1:hm p with
   |false=>
    refine pX ?_;have:=f1 (dG c2) U s1;rw[e1] at this;exact this
   |true=>
    refine jJ ?_;refine(tq<|vy.at_ s1).go λv2 H2 s2 q2=>?_;refine⟨hm q,q2,?_⟩;have:=f1 (dG c2) H2<|s1.trans s2;rw[e1,Xx] at this;exact this
  ·exact(f2 λz=>c2<|dF z).by (BC (aj J aN ⟨hk,c,dx,J,hc⟩) (aj J D' ⟨J,bl⟩)<|aj J Mo ⟨J,om⟩)
end
end BW
namespace BW
open PySem PySem.Spec PyProof.Rows L2
open Bw (bV cV bg cq Gives fh iz n_ iJ gC lI jW jz hm lW lZ nJ oa fQ c8)
theorem _root_.L2.NT.tN{R R':bE α}(h:NT C E R (L y) σ H te)(w:∀H v,R H v y->R' H v y):NT C E R' (L y) σ H te:=λU Q s k=>
 h U Q s ⟨λH' v z s' e q=>by cases e;exact k.ok H' v y s' J<|w _ _ q,λ_ _ e=>nomatch e⟩
def Sn(p:ae×ae):Prop:=p.1.natAbs<2^120/\ -2500<=p.2/\p.2<=2500
theorem Sn.sm(h:Sn p):Sm p:=⟨h.1,by have:=h.2;omega,by have:=h.2;omega⟩
theorem I_(r:cq k p a):Sn p:=⟨gy r.small.1 (ka (by lia)<|by lia),by have:=r.small;omega,by have:=r.small;omega⟩
theorem zY(r:cq k p a):Sm p:=(I_ r).sm
theorem E_(h:Sn p):Sm<|gC p:=by
 have h2:=h.2;have h1:=h.1;unfold gC
 split
 ·exact⟨by show(0:ae).natAbs<2^120;decide,by omega,by omega⟩
 ·exact⟨by omega,by omega,by omega⟩
theorem NY(r:cq k p a)(t:cq k q b):Sn<|iJ p q:=by
 have h1:=r.small;have h2:=t.small;unfold iJ
 split
 ·unfold jz Sn
  refine⟨by show(0:ae).natAbs<2^120;decide,?_,?_⟩<;>dsimp only<;>split<;>lia
 ·refine⟨?_,by omega,by omega⟩
  rw[FF]
  calc p.1.natAbs*q.1.natAbs<2^53*2^53:=P1 h1.1 h2.1
   _<=2^120:=by decide
theorem V8(r:cq k p a)(t:cq k q b):Sm<|iJ p q:=(NY r t).sm
section
variable{P:cO}{w:World}{K:aq}{mg:ax->au aH}{base:b9}{M CK:ak}
abbrev rg(K:aq)(M CK:ak)(k:aB)(g:ag->ag->au ag):Sp:=cU M (aE (RK CK k) (aE (RN K k)<|aE (RN K k) cg)) (RC K k) λx=>g x.2.1 x.2.2.1
abbrev qD(K:aq)(M CK:ak)(k:aB)(g:ag->ag->ag->au ag):Sp:=cU M (aE (RK CK k)<|aE (RN K k) (aE (RN K k)<|aE (RN K k) cg)) (RC K k) λx=>g x.2.1 x.2.2.1 x.2.2.2.1
theorem ok_plusN(F:bh K "plus" "Kind.plus" (sK 5) f fd)(T:jg K mg M CK)(G1:Gf K mg "has_minus" rf f1 bZ ["x"])(G2:Gm K CK "rounded" "Kind.rounded" (sK 4) f2 di ["self","m","e"])(k:aB):aD P w K mg base (aQ P w M) 2 f fd ["self","x","y"] (rg K M CK k<|eY k):=by
 refine(BE F T G1 G2 k).imp λvs H Q E h=>?_;obtain⟨⟨_,a,b,_⟩,⟨v,r,rfl,hk,v2,r2,rfl,⟨p,hp,rp⟩,v3,r3,rfl,⟨q,hq,rq⟩,rfl⟩,kk⟩:=h;exact⟨((),p,q,()),⟨v,_,J,hk,v2,_,J,⟨hp,zY rp⟩,v3,_,J,⟨hq,zY rq⟩,J⟩,vC (Bw.Vc hk.1 rp rq) kk⟩
section
variable{E:XK}{σ:L2.St}{H:Hp}{te t1 t2 t3:TE}{k:aB}{p q:ae×ae}{a b c:ag}
theorem Es(h0:NT M E (RK CK k) (L ()) σ H te)(h1:NT M E (yu K) (L p) σ H t1)(h2:NT M E (yu K) (L q) σ H t2):NT M E (RP K) (iz k p q) σ H<|eE CK "plus" (Wi K M CK k) [] E te (aU t1<|aU t2 b8):=oJ (f:=λx=>iz k x.2.1 x.2.2.1) h0 aN (λ_ _=>vD dk dk dk dk dk) (aF D_ h1<|aF D_ h2 bR)
theorem HN(h1:NT M E (C2 K) (L p) σ H t1)(h2:NT M E (C2 K) (L q) σ H t2):NT M E (RP K) (L<|iJ p q) σ H<|d_ (We K M) [] E (aU t1<|aU t2 b8):=cT (f:=λx=>L<|iJ x.1 x.2.1) (aF sY h1<|aF sY h2 bR)
end
structure GN(K:aq)(mg:ax->au aH)(M CK:ak):Prop where
 T:jg K mg M CK
 hm:∃f fd,Gf K mg "has_minus" rf f fd ["x"]
 op:∃f fd,Gf K mg "opposite" zS f fd ["x"]
 jz:∃f fd,Gf K mg "joined_zero" IC f fd ["x","y"]
 ex:∃f fd,Gf K mg "exact_product" Nr f fd ["x","y"]
 rd:∃f fd,Gm K CK "rounded" "Kind.rounded" (sK 4) f fd ["self","m","e"]
 pl:∃f fd,Gm K CK "plus" "Kind.plus" (sK 5) f fd ["self","x","y"]
theorem scMinus:bF ["self","x","y"] ["self","x","y"] (ba<|sK 6):=fs
theorem ok_minus(F:bh K "minus" "Kind.minus" (sK 6) f fd)(G:GN K mg M CK)(k:aB):aD P w K mg base (aQ P w M) 3 f fd ["self","x","y"] (rg K M CK k<|C7 k):=by
 sleep 3;obtain⟨T,⟨f1,bZ,G1⟩,⟨f2,di,G2⟩,_,_,⟨f3,fv,G3⟩,f4,ig,G4⟩:=G;sleep 4;have O2:aD P w K mg base (aQ P w M) 2 f2 di _<|rm K M:=(zF G2.F).gz.aV dc;have O4:aD P w K mg base _ 2 f4 ig _ _:=BE G4.F T G1 G3 k;refine F.p3 scMinus λH Q E _ a b v v2 v3 hr hk gY kP kk=>?_;obtain⟨p,hp,rp⟩:=gY;obtain⟨q,hq,rq⟩:=kP;refine⟨_,aR (bp<|bW (O 0) T.cl G4.aJ O4 hr G4.b .nil aA (bK (O 1)<|cM O2 hr J G2.m G2.F.kp G2.b .nil aA (bz<|O 2))),?_⟩;exact(vC (Bw.rep_sub hk.1 rp rq) kk).by (Es (aj J aN hk) (aj J D_ ⟨hp,zY rp⟩) ((zD<|aj J gO hq).tN λ_ _ z=>⟨z,E_<|I_ rq⟩))
theorem VF:bF ["self","x","y","m"] ["self","x","y"] (ba<|sK 7):=fs
theorem ok_times(F:bh K "times" "Kind.times" (sK 7) f fd)(G:GN K mg M CK)(k:aB):aD P w K mg base (aQ P w M) 3 f fd ["self","x","y"] (rg K M CK k<|iE k):=by
 sleep 3;obtain⟨T,⟨f1,bZ,G1⟩,_,⟨f2,di,G2⟩,_,⟨f3,fv,G3⟩,_⟩:=G;sleep 4;have O2:aD P w K mg base (aQ P w M) 2 f2 di ["x","y"] _:=(MV G2.F T G1).gz;have O3:aD P w K mg base _ 2 f3 fv _ _:=(Eu G3.F T k).aV dc;refine F.p3 VF λH Q E _ x y v v2 v3 hr hk gY kP kk=>?_;obtain⟨p,⟨a,rfl,hp⟩,rp⟩:=gY;obtain⟨q,⟨b,rfl,hq⟩,rq⟩:=kP
 refine⟨_,aG (bC 3 VF.nd (bO Ey (aX<|O 1) (aX<|O 2)))
  (aG (dU (dD iY (O 3) a_<|cW _) (aR (bp<|cM O2 hr J G2.m G2.F.kp G2.b .nil aA (bK (O 1)<|O 2))) d7)
  (aR<|bp (bW (O 0) T.cl G3.aJ O3 hr G3.b .nil aA<|bK (O 3) (bO fC (aX<|O 1) (aX<|O 2))))),?_⟩
 have kk:=vC (Bw.rep_mul hk.1 rp rq) kk;have h1:=rp.small;have h2:=rq.small;refine⟨_,J,a,_,_,_,J,J,hp,J,_,J,b,_,_,_,J,J,hq,J,_,_,J,J,.inl ⟨?_,?_⟩,?_⟩
 ·omega
 ·omega
 refine⟨_,J,_,_,J,J,_,J,d6 (λc=>?_) λc=>?_⟩
 ·have c:=dG c
  unfold n_ at kk;rw[aK c] at kk;exact kk.by (ML (aj J gO ⟨a,J,hp⟩)<|aj J gO ⟨b,J,hq⟩)
 ·have c:=λz=>c<|dF z
  unfold n_ at kk;rw[ay c] at kk
  have bl:fQ (p.1*q.1)<=8000:=dN (yL (by
   rw[FF]
   calc p.1.natAbs*q.1.natAbs<2^53*2^53:=P1 h1.1 h2.1
    _=2^106:=by decide)) dc
  have ne:NT M E F2 _ [L v,L<|.ref a,L<|.ref b,L (.int<|p.1*q.1)] H<|bY (gu λi j=>.int<|i+j) (bY (dI K) (aw 1) (tC<|.int 1))<|bY (dI K) (aw 2) (tC<|.int 1):=λU Q1 s1 k1=>
   ⟨_,J,a,_,_,_,J,J,s1.tup hp,J,_,J,b,_,_,_,J,J,s1.tup hq,J,_,_,J,J,k1.ok U _ _ sr J ⟨J,by omega⟩⟩
  exact kk.by<|BC (aj J aN hk) (aj J D' ⟨J,bl⟩) ne
theorem IE(j:ag)(hj:j=10\/j=11\/j=12\/j=13):bF ["self","x","y","z"] ["self","x","y","z"] (ba<|sK j):=by
 rcases hj with rfl|rfl|rfl|rfl<;>exact fs
theorem xJ(r:cq k p a):p.1.natAbs<2^64:=gy r.small.1 dc
theorem ok_fused(F:bh K "fused" "Kind.fused" (sK 10) f fd)(G:GN K mg M CK)(k:aB):aD P w K mg base (aQ P w M) 4 f fd ["self","x","y","z"] (qD K M CK k<|uo k):=by
 sleep 3;obtain⟨T,⟨f1,bZ,G1⟩,_,⟨f2,di,G2⟩,⟨f5,fd5,G5⟩,⟨f3,fv,G3⟩,f4,ig,G4⟩:=G;sleep 4;have O5:aD P w K mg base (aQ P w M) 3 f5 fd5 _ _:=(Ib G5.F T G1 G2).gz;have O4:aD P w K mg base _ 3 f4 ig _ _:=(BE G4.F T G1 G3 k).aV dc;refine F.p4 (IE 10 dc) λH Q E _ x y z v v2 v3 v4 hr hk gY kP yW kk=>?_;obtain⟨p,hp,rp⟩:=gY;obtain⟨q,hq,rq⟩:=kP;obtain⟨u,hu,ru⟩:=yW;refine⟨_,aR (bp (bW (O 0) T.cl G4.aJ O4 hr G4.b .nil aA<|bK (cM O5 hr J G5.m G5.F.kp G5.b .nil aA (bK (O 1)<|O 2))<|O 3)),?_⟩;exact(vC (Bw.rep_ma hk.1 rp rq ru) kk).by (Es (aj J aN hk) ((HN (aj J sY ⟨hp,xJ rp⟩)<|aj J sY ⟨hq,xJ rq⟩).tN λ_ _ z=>⟨z,V8 rp rq⟩)<|aj J D_ ⟨hu,zY ru⟩)
theorem ok_fusedLess(F:bh K "fused_less" "Kind.fused_less" (sK 11) f fd)(G:GN K mg M CK)(k:aB):aD P w K mg base (aQ P w M) 4 f fd ["self","x","y","z"] (qD K M CK k<|wF k):=by
 sleep 3;obtain⟨T,⟨f1,bZ,G1⟩,⟨f6,fd6,G6⟩,⟨f2,di,G2⟩,⟨f5,fd5,G5⟩,⟨f3,fv,G3⟩,f4,ig,G4⟩:=G;sleep 4;have O5:aD P w K mg base (aQ P w M) 3 f5 fd5 _ _:=(Ib G5.F T G1 G2).gz;have O6:aD P w K mg base (aQ P w M) 3 f6 fd6 _<|rm K M:=(zF G6.F).gz.aV dc;have O4:aD P w K mg base _ 3 f4 ig _ _:=(BE G4.F T G1 G3 k).aV dc;refine F.p4 (IE 11 dc) λH Q E _ x y z v v2 v3 v4 hr hk gY kP yW kk=>?_;obtain⟨p,hp,rp⟩:=gY;obtain⟨q,hq,rq⟩:=kP;obtain⟨u,hu,ru⟩:=yW;refine⟨_,aR<|bp (bW (O 0) T.cl G4.aJ O4 hr G4.b .nil aA (bK (cM O5 hr J G5.m G5.F.kp G5.b .nil aA (bK (O 1)<|O 2))<|cM O6 hr J G6.m G6.F.kp G6.b .nil aA (bz<|O 3))),?_⟩;exact(vC (Bw.rep_ms hk.1 rp rq ru) kk).by (Es (aj J aN hk) ((HN (aj J sY ⟨hp,xJ rp⟩)<|aj J sY ⟨hq,xJ rq⟩).tN λ_ _ z=>⟨z,V8 rp rq⟩) ((zD<|aj J gO hu).tN λ_ _ z=>⟨z,E_<|I_ ru⟩))
theorem ok_lessFused(F:bh K "less_fused" "Kind.less_fused" (sK 12) f fd)(G:GN K mg M CK)(k:aB):aD P w K mg base (aQ P w M) 4 f fd ["self","x","y","z"] (qD K M CK k<|Kx k):=by
 sleep 3;obtain⟨T,⟨f1,bZ,G1⟩,⟨f6,fd6,G6⟩,⟨f2,di,G2⟩,⟨f5,fd5,G5⟩,⟨f3,fv,G3⟩,f4,ig,G4⟩:=G;sleep 4;have O5:aD P w K mg base (aQ P w M) 3 f5 fd5 _ _:=(Ib G5.F T G1 G2).gz;have O6:aD P w K mg base (aQ P w M) 3 f6 fd6 _<|rm K M:=(zF G6.F).gz.aV dc;have O4:aD P w K mg base _ 3 f4 ig _ _:=(BE G4.F T G1 G3 k).aV dc;refine F.p4 (IE 12 dc) λH Q E _ x y z v v2 v3 v4 hr hk gY kP yW kk=>?_;obtain⟨p,hp,rp⟩:=gY;obtain⟨q,hq,rq⟩:=kP;obtain⟨u,hu,ru⟩:=yW;refine⟨_,aR<|bp (bW (O 0) T.cl G4.aJ O4 hr G4.b .nil aA<|bK (cM O6 hr J G6.m G6.F.kp G6.b .nil aA (bz<|cM O5 hr J G5.m G5.F.kp G5.b .nil aA (bK (O 1)<|O 2)))<|O 3),?_⟩;exact(vC (Bw.rep_nma hk.1 rp rq ru) kk).by (Es (aj J aN hk) ((zD (HN (aj J sY ⟨hp,xJ rp⟩)<|aj J sY ⟨hq,xJ rq⟩)).tN λ_ _ z=>⟨z,E_<|NY rp rq⟩)<|aj J D_ ⟨hu,zY ru⟩)
theorem ok_fusedOpp(F:bh K "fused_opposite" "Kind.fused_opposite" (sK 13) f fd)(G:GN K mg M CK)(k:aB):aD P w K mg base (aQ P w M) 4 f fd ["self","x","y","z"] (qD K M CK k<|Qp k):=by
 sleep 3;obtain⟨T,⟨f1,bZ,G1⟩,⟨f6,fd6,G6⟩,⟨f2,di,G2⟩,⟨f5,fd5,G5⟩,⟨f3,fv,G3⟩,f4,ig,G4⟩:=G;sleep 4;have O5:aD P w K mg base (aQ P w M) 3 f5 fd5 _ _:=(Ib G5.F T G1 G2).gz;have O6:aD P w K mg base (aQ P w M) 3 f6 fd6 _<|rm K M:=(zF G6.F).gz.aV dc;have O4:aD P w K mg base _ 3 f4 ig _ _:=(BE G4.F T G1 G3 k).aV dc;refine F.p4 (IE 13 dc) λH Q E _ x y z v v2 v3 v4 hr hk gY kP yW kk=>?_;obtain⟨p,hp,rp⟩:=gY;obtain⟨q,hq,rq⟩:=kP;obtain⟨u,hu,ru⟩:=yW;refine⟨_,aR (bp (bW (O 0) T.cl G4.aJ O4 hr G4.b .nil aA<|bK (cM O6 hr J G6.m G6.F.kp G6.b .nil aA (bz<|cM O5 hr J G5.m G5.F.kp G5.b .nil aA (bK (O 1)<|O 2)))<|cM O6 hr J G6.m G6.F.kp G6.b .nil aA (bz<|O 3))),?_⟩;exact(vC (Bw.rep_nms hk.1 rp rq ru) kk).by (Es (aj J aN hk) ((zD (HN (aj J sY ⟨hp,xJ rp⟩)<|aj J sY ⟨hq,xJ rq⟩)).tN λ_ _ z=>⟨z,E_<|NY rp rq⟩) ((zD<|aj J gO hu).tN λ_ _ z=>⟨z,E_<|I_ ru⟩))
end
end BW
namespace BW
open PySem PySem.Spec PyProof.Rows L2
open Bw (bV cV bg cq Gives fh iz n_ iJ gC lI jW jz hm lW lZ nJ oa fQ c8)
section
variable{P:cO}{w:World}{K:aq}{mg:ax->au aH}{base:b9}{M CK:ak}
def RW:bE ag:=λ_ v n=>v= .int n/\0<n/\n<2^240
abbrev OE(M:ak):Sp:=cU M (aE RW cg) RI λx=>L<|yA x.1
theorem E7:bF ["n","guess","better"] ["n"]<|ba Nt:=fs
theorem DK(g N:ag):((g+N/g)/2)=(((g+N/g)/2:ag):ae):=by
 lia
theorem ok_wroot{f:ak}{fd:c7}(F:bh K "whole_root" "whole_root" Nt f fd):aD P w K mg base ib 1 f fd ["n"]<|OE M:=by
 refine F.ok E7 (λvs H Q E h=>?_) λcj A bA s H vs Q E hr h=>?_
 ·obtain⟨t,⟨v,r,rfl,_,rfl⟩,_⟩:=h
  rfl
 ·obtain⟨⟨N,_⟩,⟨v,r,rfl,⟨rfl,n0,n1⟩,rfl⟩,k⟩:=h
  refine⟨_,aG (bC 1 E7.nd (bO lV a_<|bO Ex (bO fC (EC<|O 0) a_) a_))
   (aG (bC 2 E7.nd<|bO Ex (bO fC (O 1) (bO Ig (O 0)<|O 1)) a_)
   (aG (M_ PassesOwn.never (dD lU (O 2) (O 1)<|cW _) (aG (bC 1 E7.nd<|O 2)<|aR (bC 2 E7.nd<|bO Ex (bO fC (O 1) (bO Ig (O 0)<|O 1)) a_)))
   (aR (bp<|O 1)))),?_⟩
  have n0:0<N:=n0;have n1:N<2^240:=n1;have O0:JS 0 2:=⟨dc,dc⟩;have lg:N.log2<240:=(wo<|by lia).mpr n1;have eb:((kG (N:ae):ae)+1)/2=(((N.log2+1+1)/2:ag):ae):=by
   rw[wL,Bw.AM<|by lia,show((N:ae)).natAbs=N by lia]
   lia
  refine⟨_,J,_,J,_,_,J,J,_,_,J,J,O0,_,_,J,J,⟨?_,?_,by show(1:ae).natAbs<2^250;decide⟩,?_⟩
  ·show 0<=((kG (N:ae):ae)+1)/2
   rw[eb];omega
  ·show((kG (N:ae):ae)+1)/2<=100000
   rw[eb];omega
  have eg:(1:ae)*2^(((kG (N:ae):ae)+1)/2).toNat=((2^((N.log2+1+1)/2):ag):ae):=by
   rw[eb,Af,<-Bw.i6]
   congr 1
  have gst:=Bw.newton_start (n:=N);have gp:0<2^((N.log2+1+1)/2):=CJ _;have gl:2^((N.log2+1+1)/2)<2^130:=Ys (by lia) om
  have bZ:∀g:ag,0<g->g<2^130->(0:ae)<(g:ae)/\((g:ae)).natAbs<2^250:=λg h1 h2=>⟨(by lia),by
   exact gy h2 dc⟩
  refine⟨_,J,_,J,_,J,_,_,J,J,?_,_,_,J,J,_,_,J,J,O0,?_⟩
  ·show(0:ae)<1*2^(((kG (N:ae):ae)+1)/2).toNat/\((1:ae)*2^(((kG (N:ae):ae)+1)/2).toNat).natAbs<2^250
   rw[eg];exact bZ _ gp gl
  show oY (OV _ _) _ _ [L<|.int (N:ae),L<|.int _,L _] H;rw[eg];generalize 2^((N.log2+1+1)/2)=g0 at*;refine while_by (λσ H'=>∃g:ag,σ=[L<|.int (N:ae),L<|.int (g:ae),L (.int<|((g:ae)+(N:ae)/(g:ae))/2)]/\H'=H/\0<g/\N<(g+1)*(g+1)/\g<2^130)
   (λσ _=>match σ with|[_,L (.int g),_]=>g.toNat|_=>0) ⟨g0,J,J,gp,gst,gl⟩ ?_ ?_
  ·rintro σ H' ⟨g,rfl,rfl,h1,h2,h3⟩
   refine⟨_,J,_,J,_,_,J,J,_,J,d6 (λc=>?_) λc=>?_⟩
   ·have c:=dG c
    rw[DK] at c;obtain⟨s1,s2⟩:=Bw.newton_step n0 h1 om;refine⟨_,J,_,J,_,J,_,J,_,_,J,J,?_,_,_,J,J,_,_,J,J,O0,?_⟩
    ·show(0:ae)<((g:ae)+(N:ae)/(g:ae))/2/\(((g:ae)+(N:ae)/(g:ae))/2).natAbs<2^250
     rw[DK];exact bZ _ s1 om
    ·refine⟨⟨(g+N/g)/2,?_,J,s1,s2,om⟩,?_⟩
     ·show [L<|V.int (N:ae),L _,L _]=_
      rw[DK]
     ·show(((g:ae)+(N:ae)/(g:ae))/2).toNat<((g:ae)).toNat
      rw[DK]
      lia
   ·have c:¬((g:ae)+(N:ae)/(g:ae))/2<(g:ae):=λz=>c<|dF z
    rw[DK] at c;have e:=(Bw.newton_end h1 h2 om).Aa<|Bw.wU N;exact⟨_,J,k.Hm (by show((yA N:ag):ae)=(g:ae);lia)⟩
  ·rintro σ U Q1 Q2 f ⟨v,hv,u,hu,i,j,e1,e2,b,e3,q⟩
   exact⟨v,hv,u,hu,i,j,e1,e2,b,e3,f _ _ q⟩
end
end BW
namespace BW
open PySem PySem.Spec PyProof.Rows L2
open Bw (bV cV bg cq Gives fh iz n_ iJ gC lI jW jz hm lW lZ nJ oa fQ c8)
theorem AK(i:ae):(if i<0 then-i else i)=i.natAbs:=by split<;>grind
theorem max_cast(j:ae):(if j>0 then j else 0)=max 0 j:=by split<;>lia
section
variable{P:cO}{w:World}{K:aq}{mg:ax->au aH}{base:b9}{M CK:ak}
abbrev Jb(K:aq)(M CK:ak)(k:aB)(g:ag->ag->au ag):Sp:=cU M (aE (RK CK k) (aE (RC K k)<|aE (RC K k) cg)) (RC K k) λx=>g x.2.1 x.2.2.1
abbrev Ja(K:aq)(M CK:ak)(k:aB)(g:ag->au ag):Sp:=cU M (aE (RK CK k)<|aE (RC K k) cg) (RC K k) λx=>g x.2.1
theorem IL:bF ["self","x","y","lift","raised","m"] ["self","x","y"] (ba<|sK 8):=fs
theorem quot_small(hA:A<2^53)(hl:l<=200):2*(A*2^l/B)+1<2^255:=by
 have h1:A*2^l/B<=A*2^l:=Yl _ _;have h2:A*2^l<=2^53*2^200:=rQ (by lia) (ka (by lia) hl)
 lia
theorem ok_over{f:ak}{fd:c7}(F:bh K "over" "Kind.over" (sK 8) f fd)(G:GN K mg M CK)(k:aB):aD P w K mg base (aQ P w M) 3 f fd ["self","x","y"] (Jb K M CK k<|yy k):=by
 sleep 3;obtain⟨T,⟨f1,bZ,G1⟩,_,⟨f2,di,G2⟩,_,⟨f3,fv,G3⟩,_⟩:=G;sleep 4;have O1:aD P w K mg base (aQ P w M) 2 f1 bZ ["x"]<|rj K M:=(Ic G1.F).gz.aV dc;have O2:aD P w K mg base (aQ P w M) 2 f2 di ["x","y"]<|Jf K M:=(MV G2.F T G1).gz;have O3:aD P w K mg base (aQ P w M) 2 f3 fv ["self","m","e"]<|vM K M CK k:=(Eu G3.F T k).aV dc;refine F.p3 IL λH Q E _ x y v v2 v3 hr qN gY kP kk=>?_;obtain⟨hk,c,dx,rfl,hc⟩:=qN;obtain⟨⟨a,rfl,hp⟩,fx⟩:=gY;obtain⟨⟨b,rfl,hq⟩,fy⟩:=kP
 refine⟨_,aG (dU (dD iY (aX<|O 2) a_<|cW _) (aR<|Il J T.sD Iq J T.sX) d7)
  (aG (dU (dD iY (aX<|O 1) a_<|cW _) (aR (bp<|cM O2 hr J G2.m G2.F.kp G2.b .nil aA (bK (O 1)<|O 2))) d7)
  (aG (bC 3 IL.nd (jL (ZR J) J T.max boot_max<|bK a_ (bO iy (bO fC (bO fC (bu<|O 0) a_)<|EC (aX<|O 2))<|EC (aX<|O 1))))
  (aG (bC 4 IL.nd<|bO lV (jL Gn J T.yH KU<|bz (aX<|O 1))<|O 3)
  (aG (bC 5 IL.nd (bO fC (bO Ey a_<|bO Ig (O 4) (jL Gn J T.yH KU<|bz (aX<|O 2)))<|mJ (dD iY (bO Ih (O 4) (jL Gn J T.yH KU<|bz (aX<|O 2))) a_<|cW _) a_ a_))
  (aR (bp (bW (O 0) T.cl G3.aJ O3 hr G3.b .nil aA (dC (mJ (dD UM (cM O1 hr J G1.m G1.F.kp G1.b .nil aA (bz<|O 1)) (cM O1 hr J G1.m G1.F.kp G1.b .nil aA (bz<|O 2))<|cW _) (xH xY<|O 5)<|O 5)
    (bz<|bO iy (bO iy (bO iy (aX<|O 1) (aX<|O 2))<|O 3) a_))))))))),?_⟩
 have kk:=vC (Bw.rep_div hk fx fy) kk;have kb:=D1 hk;have h1:=(cq.bg hk fx).small;have h2:=(cq.bg hk fy).small;have hp:cH K H a [.int (bg k x).1,.int (bg k x).2]:=hp;have hq:cH K H b [.int (bg k y).1,.int (bg k y).2]:=hq;generalize bg k x=p at*;generalize bg k y=q at*;refine⟨_,J,b,_,_,_,J,J,hq,J,_,_,J,J,_,J,d6 (λc1=>?_) λc1=>?_⟩
 ·have c1:q.1=0:=dG c1
  exact kk.no H (az.refl H) (by unfold lW;rw[aK c1])
 have c1:¬q.1=0:=λz=>c1<|dF z;refine⟨_,J,a,_,_,_,J,J,hp,J,_,_,J,J,_,J,d6 (λc2=>?_) λc2=>?_⟩
 ·have c2:p.1=0:=dG c2
  unfold lW at kk;rw[ay c1,aK c2] at kk;exact kk.by (ML (aj J gO ⟨a,J,hp⟩)<|aj J gO ⟨b,J,hq⟩)
 have c2:¬p.1=0:=λz=>c2<|dF z;have el:(if((k.frac+1:ag):ae)+2+(kG q.1:ae)-(kG p.1:ae)>0 then((k.frac+1:ag):ae)+2+(kG q.1:ae)-(kG p.1:ae) else 0)=Bw.gb k p q:=by
  rw[max_cast,wL,wL];rfl
 have bq:=yL h2.1;have bl:0<=Bw.gb k p q/\Bw.gb k p q<=120:=by unfold Bw.gb;omega
 refine⟨_,J,c,CK,dx,_,_,J,hc,T.cl,T.nd,zi k,_,_,J,J,_,J,b,_,_,_,J,J,hq,J,_,J,_,_,J,J,_,J,a,_,_,_,J,J,hp,J,_,J,_,_,J,J,_,_,J,?_⟩;dsimp only[eI];rw[el];refine⟨_,J,a,_,_,_,J,J,hp,J,_,J,_,J,_,_,J,J,⟨?_,?_,?_⟩,?_⟩
 ·show 0<=Bw.gb k p q;omega
 ·show Bw.gb k p q<=100000;omega
 ·show(if p.1<0 then-p.1 else p.1).natAbs<2^250
  rw[AK];have:(2:ag)^53<=2^250:=by decide
  lia
 dsimp only[eI];rw[AK];have ez:(p.1.natAbs:ae)*2^(Bw.gb k p q).toNat=((p.1.natAbs*2^(Bw.gb k p q).toNat:ag):ae):=by rw[qF,Bw.i6]
 have U5:(0:ae)<(if q.1<0 then-q.1 else q.1)/\(if q.1<0 then-q.1 else q.1).natAbs<2^250:=by
  rw[AK];have:(2:ag)^53<=2^250:=by decide
  exact⟨om,om⟩
 have er:∀aJ:ae,aJ=2*((p.1.natAbs:ae)*2^(Bw.gb k p q).toNat/(q.1.natAbs:ae))+(if(p.1.natAbs:ae)*2^(Bw.gb k p q).toNat%(q.1.natAbs:ae)=0 then 0 else 1)->lW k p q=fh k (if(hm p !=hm q)=ao then-aJ else aJ) (p.2-q.2-Bw.gb k p q-1):=λaJ e=>by
  unfold lW;rw[ay c1,ay c2,e]
 have bM:∀aJ:ae,aJ=2*((p.1.natAbs:ae)*2^(Bw.gb k p q).toNat/(q.1.natAbs:ae))+(if(p.1.natAbs:ae)*2^(Bw.gb k p q).toNat%(q.1.natAbs:ae)=0 then 0 else 1)->aJ.natAbs<2^255:=λaJ e=>by
  have h3:=quot_small (A:=p.1.natAbs) (B:=q.1.natAbs) (l:=(Bw.gb k p q).toNat) h1.1 om;rw[ez,<-Px,<-XU] at e;generalize p.1.natAbs*2^(Bw.gb k p q).toNat/q.1.natAbs=d at*
  split at e<;>omega
 have dr:∀aJ:ae,aJ=2*((p.1.natAbs:ae)*2^(Bw.gb k p q).toNat/(q.1.natAbs:ae))+(if(p.1.natAbs:ae)*2^(Bw.gb k p q).toNat%(q.1.natAbs:ae)=0 then 0 else 1)->NT M E (RP K) (lW k p q) [L<|.ref c,L<|.ref a,L<|.ref b,L (.int<|Bw.gb k p q),L (.int<|(p.1.natAbs:ae)*2^(Bw.gb k p q).toNat),L<|.int aJ] H
   (eE CK "rounded" (vM K M CK k) [] E (aw 0) (aU (OO (Jx (bY (λx y H Q=>∃a b,x= .bl a/\y= .bl b/\Q (.bl<|a !=b) H) (d_ (rj K M) [] E<|aU (aw 1) b8) (d_ (rj K M) [] E<|aU (aw 2) b8))) (WW (rU λi=>.int (-i))<|aw 5)<|aw 5)
     (aU (bY (gu λi j=>.int<|i-j) (bY (gu λi j=>.int<|i-j) (bY (gu λi j=>.int<|i-j) (bY (dI K) (aw 1) (tC<|.int 1))<|bY (dI K) (aw 2) (tC<|.int 1))<|aw 3) (tC<|.int 1)) b8))):=λaJ e=>by
  rw[er aJ e];have bm:=bM aJ e;refine BC (aj J aN ⟨hk,c,dx,J,hc⟩) (λU Q1 s1 k1=>?_) λU Q1 s1 k1=>?_
  ·have vx:NT M E (RP K) (L p) [L<|.ref c,L<|.ref a,L<|.ref b,L (.int<|Bw.gb k p q),L (.int<|(p.1.natAbs:ae)*2^(Bw.gb k p q).toNat),L<|.int aJ] U<|aw 1:=aj J gO ⟨a,J,s1.tup hp⟩
   have vy:NT M E (RP K) (L q) [L<|.ref c,L<|.ref a,L<|.ref b,L (.int<|Bw.gb k p q),L (.int<|(p.1.natAbs:ae)*2^(Bw.gb k p q).toNat),L<|.int aJ] U<|aw 2:=aj J gO ⟨b,J,s1.tup hq⟩;refine(tq vx).go λv H2 s2 q1=>?_;refine(tq<|vy.at_ s2).go λv2 H3 s3 q2=>?_;refine⟨_,_,q1,q2,_,J,d6 (λz=>?_) λz=>?_⟩
   ·refine⟨_,J,_,J,k1.ok H3 _ _ (s2.trans s3) J ⟨?_,?_⟩⟩
    ·rw[aK z]
    ·rw[aK z];exact dN (yL (n:=255) om) dc
   ·refine⟨_,J,k1.ok H3 _ _ (s2.trans s3) J ⟨?_,?_⟩⟩
    ·rw[ay z]
    ·rw[ay z];exact dN (yL (n:=255) om) dc
  ·exact⟨_,J,a,_,_,_,J,J,s1.tup hp,J,_,J,b,_,_,_,J,J,s1.tup hq,J,_,_,J,J,_,J,_,_,J,J,_,_,J,J,k1.ok U _ _ sr J ⟨J,by show-9000<=p.2-q.2-Bw.gb k p q-1/\p.2-q.2-Bw.gb k p q-1<=9000;omega⟩⟩
 refine⟨_,J,_,J,b,_,_,_,J,J,hq,J,_,J,_,_,J,J,U5,_,_,J,J,.inl ⟨dc,dc⟩,_,J,_,J,b,_,_,_,J,J,hq,J,_,J,_,_,J,J,U5.1,_,_,J,J,_,J,d6 (λz=>?_) λz=>?_⟩
 ·have z:(p.1.natAbs:ae)*2^(Bw.gb k p q).toNat%(if q.1<0 then-q.1 else q.1)=0:=dG z
  refine⟨_,_,J,J,?_⟩;refine kk.by<|dr _ ?_;rw[AK] at z⊢;rw[aK z]
 ·have z:¬(p.1.natAbs:ae)*2^(Bw.gb k p q).toNat%(if q.1<0 then-q.1 else q.1)=0:=λy=>z<|dF y
  refine⟨_,_,J,J,?_⟩;refine kk.by<|dr _ ?_;rw[AK] at z⊢;rw[ay z]
end
end BW
namespace BW
open PySem PySem.Spec PyProof.Rows L2
open Bw (bV cV bg cq Gives fh iz n_ iJ gC lI jW jz hm lW lZ nJ oa fQ c8)
section
variable{P:cO}{w:World}{K:aq}{mg:ax->au aH}{base:b9}{M CK:ak}
theorem EX:bF ["self","x","lift","raised","whole","m"] ["self","x"] (ba<|sK 9):=fs
theorem nt_wroot(h:NT M E RW (L n) σ H te):NT M E RI (L<|yA n) σ H (d_ (OE M) [] E<|aU te b8):=cT (f:=λx=>L (yA x.1:ae))<|aF (λ_ _ _ _ _ h=>h) h bR
theorem root_le(h:Bw.m6 m r):r<=m:=by
 by_cases z:r=0
 ·omega
 ·exact dN (Ym r om) h.1
theorem ok_root{f f2:ak}{fd di:c7}(F:bh K "root" "Kind.root" (sK 9) f fd)(G:GN K mg M CK)(G2:Gf K mg "whole_root" Nt f2 di ["n"])(k:aB):aD P w K mg base (aQ P w M) 2 f fd ["self","x"] (Ja K M CK k<|wG k):=by
 obtain⟨T,_,_,_,_,⟨f3,fv,G3⟩,_⟩:=G;have O2:aD P w K mg base (aQ P w M) 1 f2 di ["n"]<|OE M:=(ok_wroot G2.F).gz;have O3:aD P w K mg base (aQ P w M) 1 f3 fv ["self","m","e"]<|vM K M CK k:=Eu G3.F T k;refine F.p2 EX λH Q E _ x v v2 hr qN gY kk=>?_;obtain⟨hk,c,dx,rfl,hc⟩:=qN;obtain⟨⟨a,rfl,hp⟩,fx⟩:=gY
 refine⟨_,aG (dU (dD iY (aX<|O 1) a_<|cW _) (aR (bp<|O 1)) d7)
  (aG (dU (dD lU (aX<|O 1) a_<|cW _) (aR<|Il J T.sD Iq J T.sX) d7)
  (aG (bC 2 EX.nd (bO fC (bO fC (bO Ey a_ (bu<|O 0)) a_)<|bO Ih (aX<|O 1) a_))
  (aG (bC 3 EX.nd<|bO lV (aX<|O 1)<|O 2)
  (aG (bC 4 EX.nd<|cM O2 hr J G2.m G2.F.kp G2.b .nil aA (bz<|O 3))
  (aG (bC 5 EX.nd (bO fC (bO Ey a_<|O 4) (mJ (dD iY (bO op_mulB (O 4)<|O 4) (O 3)<|cW _) a_ a_)))
  (aR (bp<|bW (O 0) T.cl G3.aJ O3 hr G3.b .nil aA (bK (O 5)<|bO iy (bO Ex (bO iy (aX<|O 1)<|O 2) a_) a_)))))))),?_⟩
 have kk:=vC (Bw.rep_root hk fx) kk;have kb:=D1 hk;have h1:=(cq.bg hk fx).small;have hp:cH K H a [.int (bg k x).1,.int (bg k x).2]:=hp;generalize bg k x=p at*;refine⟨_,J,a,_,_,_,J,J,hp,J,_,_,J,J,_,J,d6 (λc1=>?_) λc1=>?_⟩
 ·have c1:p.1=0:=dG c1
  exact⟨_,J,kk.ok H _ _ (az.refl H) (by unfold lZ;rw[aK c1]) ⟨a,J,hp⟩⟩
 have c1:¬p.1=0:=λz=>c1<|dF z;refine⟨_,J,a,_,_,_,J,J,hp,J,_,_,J,J,_,J,d6 (λc2=>?_) λc2=>?_⟩
 ·have c2:p.1<0:=dG c2
  exact kk.no H (az.refl H) (by unfold lZ;rw[ay c1,aK c2])
 have c2:¬p.1<0:=λz=>c2<|dF z;refine⟨_,J,c,CK,dx,_,_,J,hc,T.cl,T.nd,zi k,_,_,J,J,.inl ⟨dc,dc⟩,_,_,J,J,_,J,a,_,_,_,J,J,hp,J,_,_,J,J,(by show(0:ae)<2;decide),_,_,J,J,?_⟩;dsimp only[eI];have bl:0<=2*((k.frac+1:ag):ae)+4+p.2%2/\2*((k.frac+1:ag):ae)+4+p.2%2<=111:=by omega
 have er:lZ k p=fh k (2*(yA (p.1.toNat*2^(2*((k.frac+1:ag):ae)+4+p.2%2).toNat):ae)+(if yA (p.1.toNat*2^(2*((k.frac+1:ag):ae)+4+p.2%2).toNat)*yA (p.1.toNat*2^(2*((k.frac+1:ag):ae)+4+p.2%2).toNat)=p.1.toNat*2^(2*((k.frac+1:ag):ae)+4+p.2%2).toNat then 0 else 1)) ((p.2-(2*((k.frac+1:ag):ae)+4+p.2%2))/2-1):=by
  unfold lZ;rw[ay c1,ay c2]
 generalize 2*((k.frac+1:ag):ae)+4+p.2%2=l at*;have KN:(2:ag)^53<=2^250:=by decide
 refine⟨_,J,a,_,_,_,J,J,hp,J,_,J,_,_,J,J,⟨?_,?_,?_⟩,?_⟩
 ·show 0<=l;omega
 ·show l<=100000;omega
 ·show p.1.natAbs<2^250;omega
 dsimp only[eI];have ez:p.1*2^l.toNat=((p.1.toNat*2^l.toNat:ag):ae):=by
  rw[qF,Bw.i6]
  congr 1
  omega
 have m1:p.1.toNat*2^l.toNat<2^240:=by
  calc p.1.toNat*2^l.toNat<=2^53*2^111:=rQ om (ka om om)
   _<2^240:=by decide
 have m0:0<p.1.toNat*2^l.toNat:=P2 om<|CJ _;rw[ez];generalize p.1.toNat*2^l.toNat=N at*;have rl:=root_le<|Bw.wU N;refine NT.go (nt_wroot<|aj J (λ_ _ _ _ _ h=>h) ⟨J,m0,m1⟩) λv U s1 q1=>?_
 cases q1
 dsimp only[eI];generalize yA N=W at*;have hc1:=s1 _ _ hc;have LO:=s1.tup hp;have L4:=kk.at_ s1;have b25:(2:ag)^240<=2^250:=by decide
 have dr:∀aJ:ae,aJ=2*(W:ae)+(if W*W=N then 0 else 1)->NT M E (RP K) (lZ k p) [L<|.ref c,L<|.ref a,L<|.int l,L<|.int (N:ae),L<|.int (W:ae),L<|.int aJ] U
  (eE CK "rounded" (vM K M CK k) [] E (aw 0) (aU (aw 5)<|aU (bY (gu λi j=>.int<|i-j) (bY (rI JS λi j=>.int<|i/j) (bY (gu λi j=>.int<|i-j) (bY (dI K) (aw 1) (tC<|.int 1))<|aw 2) (tC<|.int 2)) (tC<|.int 1)) b8)):=λaJ e=>by
  rw[er,<-e];refine BC (aj J aN ⟨hk,c,dx,J,hc1⟩) (aj J D' ⟨J,?_⟩) λH2 Q2 s2 k2=>?_
  ·refine dN (yL (n:=250) ?_) dc
   have:(2:ag)^240*4<=2^250:=by decide
   split at e<;>omega
  ·exact⟨_,J,a,_,_,_,J,J,s2.tup LO,J,_,J,_,_,J,J,_,_,J,J,⟨dc,dc⟩,_,_,J,J,k2.ok H2 _ _ sr J ⟨J,by show-9000<=(p.2-l)/2-1/\(p.2-l)/2-1<=9000;omega⟩⟩
 refine⟨_,J,_,_,J,J,.inl ⟨dc,dc⟩,_,J,_,J,_,_,J,J,⟨?_,?_⟩,_,J,_,_,J,J,_,J,d6 (λz=>?_) λz=>?_⟩
 ·show((W:ae)).natAbs<2^250;omega
 ·show((W:ae)).natAbs<2^250;omega
 ·have z:(W:ae)*(W:ae)=(N:ae):=dG z
  rw[<-qF] at z;exact⟨_,_,J,J,L4.by (dr _<|by rw[aK om])⟩
 ·have z:¬(W:ae)*(W:ae)=(N:ae):=λy=>z<|dF y
  rw[<-qF] at z;exact⟨_,_,J,J,L4.by (dr _<|by rw[ay om])⟩
end
end BW
namespace BW
open PySem PySem.Spec PyProof.Rows L2
open Bw (bV cV bg cq Gives fh iz n_ iJ gC lI jW jz hm lW lZ nJ oa fQ c8)
theorem SW{c A B:Prop}[Decidable c](hc:c)(h:A):if decide c=ao then A else B:=by
 rw[aK<|dF hc];exact h
theorem SU{c A B:Prop}[Decidable c](hc:¬c)(h:B):if decide c=ao then A else B:=by
 rw[ay λz=>hc<|dG z];exact h
def RX(k:aB):bE ag:=λ_ v x=>v= .int x/\x<2*k.sign
def RO(K:aq)(k:aB):bE<|au ag:=λH v o=>match o with
 |none=>v= .cu
 |some a=>RC K k H v a
def oE(k:aB)(x:ag):au ag:=if jH k x=ao then L x else ah
section
variable{P:cO}{w:World}{K:aq}{mg:ax->au aH}{base:b9}{M CK:ak}
theorem NX(hk:bV k):2*k.sign<=2^64/\k.frac+k.expo<=63/\k.frac<=52:=by rcases hk with rfl|rfl<;>decide
abbrev Od(K:aq)(M CK:ak)(k:aB):Sp:=cU M (aE (RK CK k)<|aE (RX k) cg) (RO K k) λx=>L<|oE k x.2.1
theorem zT:bF ["self","bits","sign","size","hidden","field","m","e"] ["self","bits"] (ba<|sK 1):=fs
theorem UD{f:ak}{fd:c7}(F:bh K "from_bits" "Kind.from_bits" (sK 1) f fd)(T:jg K mg M CK)(k:aB):aD P w K mg base ib 1 f fd ["self","bits"]<|Od K M CK k:=by
 refine F.ok zT (λvs H Q E h=>?_) λcj A bA s H vs Q E hr h=>?_
 ·obtain⟨t,⟨v,r,rfl,_,v2,r2,rfl,_,rfl⟩,_⟩:=h
  rfl
 ·obtain⟨⟨_,x,_⟩,⟨v,r,rfl,⟨hk,c,dx,rfl,hc⟩,v2,r2,rfl,⟨rfl,hx⟩,rfl⟩,kk⟩:=h
  refine⟨_,aG (bC 2 zT.nd<|bO MY (O 1) (bu<|O 0))
   (aG (bC 3 zT.nd (bO iy (O 1)<|bO lV (O 2) (bu<|O 0)))
   (aG (bC 4 zT.nd (bO lV a_<|bO iy (bu<|O 0) a_))
   (aG (bC 5 zT.nd (bO Ig (O 3)<|O 4))
   (aG (dU (dD vh (O 5) (bO fC (bO iy (bu<|O 0) (bu<|O 0)) a_)<|cW _) (aR<|bp nY) d7)
   (aG (dU (dD iY (O 3) a_<|cW _) (aR (bp<|fV (bK a_<|O 2))) d7)
   (aG (bC 6 zT.nd (mJ (dD iY (O 5) a_<|cW _) (O 3)<|bO fC (bO Ih (O 3)<|O 4)<|O 4))
   (aG (bC 7 zT.nd (mJ (dD iY (O 5) a_<|cW _) (bu<|O 0) (bO iy (bO fC (bu<|O 0)<|O 5) a_)))
   (aR (bp (fV<|bK (mJ (dD iY (O 2) a_<|cW _) (xH xY<|O 6)<|O 6)<|O 7)))))))))),?_⟩
  have hx:x<2*k.sign:=hx;have ks:=NX hk;have sp:=Bw.from_spec (k:=k) hx
  have kn:nJ k (x:ae)=ah-> ∀U,az H U->Q .cu U:=λe U s1=>kk.ok U _ _ s1 J (by
   show RO K k U .cu (oE k x);unfold oE;rw[e] at sp
   split at sp
   ·cases sp
   ·rename_i z
    rw[ay z]
    rfl)
  have ky:∀p,nJ k (x:ae)=L p-> ∀l,H l=ah->Q (.ref l) (aC H l<|.tup [.int p.1,.int p.2]):=λp e l hl=>kk.ok _ _ _ (az.new hl) J (by
   show RO K k _ (.ref l) (oE k x);unfold oE;rw[e] at sp
   split at sp
   ·rename_i z
    rw[aK z]
    cases sp
    exact⟨⟨l,J,cH.of bw⟩,hx,z⟩
   ·cases sp)
  unfold nJ at kn ky;clear sp;refine⟨_,J,_,J,c,CK,dx,_,_,J,hc,T.cl,T.ns,DZ k,_,_,J,J,(by show(0:ae)<=((k.frac+k.expo:ag):ae);omega),?_⟩;dsimp only[eI];rw[kI];have sg0:0<=(x:ae)/2^(k.frac+k.expo)/\(x:ae)/2^(k.frac+k.expo)<=(x:ae):=by
   rw[<-Bw.i6,<-Px];have:=Yl x<|2^(k.frac+k.expo);exact⟨XW _,Int.ofNat_le.mpr this⟩
  refine⟨_,J,_,J,_,J,c,CK,dx,_,_,J,hc,T.cl,T.ns,DZ k,_,_,J,J,⟨?_,?_,?_⟩,_,_,J,J,?_⟩
  ·show(0:ae)<=((k.frac+k.expo:ag):ae);omega
  ·show((k.frac+k.expo:ag):ae)<=100000;omega
  ·show((x:ae)/2^(k.frac+k.expo)).natAbs<2^250
   have:(2:ag)^64<=2^250:=by decide
   lia
  dsimp only[eI];rw[kI];refine⟨_,J,c,CK,dx,_,_,J,hc,T.cl,T.nd,zi k,_,_,J,J,_,_,J,J,⟨?_,?_,by show(1:ae).natAbs<2^250;decide⟩,?_⟩
  ·show(0:ae)<=((k.frac+1:ag):ae)-1;omega
  ·show((k.frac+1:ag):ae)-1<=100000;omega
  dsimp only[eI];have eh:(1:ae)*2^(((k.frac+1:ag):ae)-1).toNat=2^k.frac:=by
   rw[Af]
   congr 1
   lia
  rw[eh];have hh:(0:ae)<2^k.frac/\((2:ae)^k.frac).natAbs<2^250:=by
   refine⟨Bw.mE _,?_⟩;rw[J2];exact Ys (by lia) om
  dsimp only at kn ky;generalize He:(x:ae)/2^(k.frac+k.expo)=tI at*;generalize nR:(x:ae)-tI*2^(k.frac+k.expo)=size at*;generalize hhd:(2:ae)^k.frac=sN at*;refine⟨_,J,_,J,_,_,J,J,hh,?_⟩;dsimp only[eI];generalize hfd:size/sN=fld at*;refine⟨_,J,_,J,c,CK,dx,_,_,J,hc,T.cl,T.ng,DY k,_,J,c,CK,dx,_,_,J,hc,T.cl,T.nl,zj k,_,_,J,J,_,_,J,J,_,_,J,J,_,J,d6 (λc1=>?_) λc1=>?_⟩
  ·have c1:Bw.aO k-k.least+1<fld:=dG c1
   exact kn (aK c1) H<|az.refl H
  have c1:¬Bw.aO k-k.least+1<fld:=λz=>c1<|dF z;refine⟨_,J,_,_,J,J,_,J,d6 (λc2=>?_) λc2=>?_⟩
  ·have c2:size=0:=dG c2
   exact⟨_,J,(by show 2<=bI;decide),ky (0,tI)<|by rw[ay c1,aK c2]⟩
  have c2:¬size=0:=λz=>c2<|dF z;have mh:(0:ae)<sN:=hh.1;by_cases c3:fld=0
  ·refine⟨_,J,_,_,J,J,_,J,SW c3 ?_⟩
   refine⟨_,J,_,J,_,_,J,J,_,J,SW c3 ?_⟩;refine⟨_,J,c,CK,dx,_,_,J,hc,T.cl,T.nl,zj k,_,J,_,_,J,J,_,J,d6 (λc4=>?_) λc4=>?_⟩
   ·have c4:tI=1:=dG c4
    exact⟨_,J,_,J,_,J,(by show 2<=bI;decide),ky (-size,k.least)<|by rw[ay c1,ay c2,aK c3,aK c3,aK c4]⟩
   ·have c4:¬tI=1:=λz=>c4<|dF z
    exact⟨_,J,_,J,(by show 2<=bI;decide),ky (size,k.least)<|by rw[ay c1,ay c2,aK c3,aK c3,ay c4]⟩
  ·refine⟨_,J,_,_,J,J,_,J,SU c3 ?_⟩
   refine⟨_,J,_,J,_,_,J,J,mh,_,J,_,_,J,J,_,J,_,_,J,J,_,J,SU c3 ?_⟩;refine⟨_,J,c,CK,dx,_,_,J,hc,T.cl,T.nl,zj k,_,J,_,_,J,J,_,_,J,J,_,J,_,_,J,J,_,J,d6 (λc4=>?_) λc4=>?_⟩
   ·have c4:tI=1:=dG c4
    exact⟨_,J,_,J,_,J,(by show 2<=bI;decide),ky (-(size%sN+sN),k.least+fld-1)<|by rw[ay c1,ay c2,ay c3,ay c3,aK c4]⟩
   ·have c4:¬tI=1:=λz=>c4<|dF z
    exact⟨_,J,_,J,(by show 2<=bI;decide),ky (size%sN+sN,k.least+fld-1)<|by rw[ay c1,ay c2,ay c3,ay c3,ay c4]⟩
end
end BW
namespace BW
open PySem PySem.Spec PyProof.Rows L2
open Bw (bV cV bg cq Gives fh iz n_ iJ gC lI jW jz hm lW lZ nJ oa fQ c8)
section
variable{P:cO}{w:World}{K:aq}{mg:ax->au aH}{base:b9}{M CK:ak}
abbrev OA(K:aq)(M CK:ak)(k:aB):Sp:=cU M (aE (RK CK k)<|aE (RC K k) cg) RI λx=>L<|x.2.1
theorem VG:bF ["self","x","size"] ["self","x"] (ba<|sK 2):=fs
theorem UK{f:ak}{fd:c7}(F:bh K "to_bits" "Kind.to_bits" (sK 2) f fd)(T:jg K mg M CK)(k:aB):aD P w K mg base ib 1 f fd ["self","x"]<|OA K M CK k:=by
 refine F.ok VG (λvs H Q E h=>?_) λcj A bA s H vs Q E hr h=>?_
 ·obtain⟨t,⟨v,r,rfl,_,v2,r2,rfl,_,rfl⟩,_⟩:=h
  rfl
 ·obtain⟨⟨_,x,_⟩,⟨v,r,rfl,⟨hk,c,dx,rfl,hc⟩,v2,r2,rfl,⟨⟨a,rfl,hp⟩,fx⟩,rfl⟩,kk⟩:=h
  refine⟨_,aG (dU (dD iY (aX<|O 1) a_<|cW _) (aR<|bp (bO lV (aX<|O 1) (bu<|O 0))) d7)
   (aG (bC 2 VG.nd (bO fC (bO lV (bO iy (aX<|O 1) (bu<|O 0))<|bO iy (bu<|O 0) a_) (jL Gn J T.yH KU<|bz (aX<|O 1))))
   (aR (bp (mJ (dD lU (aX<|O 1) a_<|cW _) (bO fC (O 2)<|bO lV a_ (bu<|O 0))<|O 2)))),?_⟩
  have sp:=Bw.OY (k:=k) fx.1;have kk:bQ M RI H (L (x:ae)) Q E:=kk;rw[<-sp] at kk;have kb:=D1 hk;have ks:=NX hk;have h1:=(cq.bg hk fx).small;clear sp fx;generalize bg k x=p at*;refine⟨_,J,a,_,_,_,J,J,hp,J,_,_,J,J,_,J,d6 (λc1=>?_) λc1=>?_⟩
  ·have c1:p.1=0:=dG c1
   refine⟨_,J,a,_,_,_,J,J,hp,J,_,J,c,CK,dx,_,_,J,hc,T.cl,T.ns,DZ k,_,_,J,J,⟨?_,?_,?_⟩,kk.Hm ?_⟩
   ·omega
   ·omega
   ·show p.2.natAbs<2^250;omega
   ·unfold oa
    rw[aK c1,kI]
  have c1:¬p.1=0:=λz=>c1<|dF z;refine⟨_,J,a,_,_,_,J,J,hp,J,_,J,c,CK,dx,_,_,J,hc,T.cl,T.nl,zj k,_,_,J,J,_,J,c,CK,dx,_,_,J,hc,T.cl,T.nd,zi k,_,_,J,J,_,_,J,J,⟨?_,?_,?_⟩,_,J,a,_,_,_,J,J,hp,J,_,J,_,_,J,J,?_⟩
  ·omega
  ·show((k.frac+1:ag):ae)-1<=100000;omega
  ·show(p.2-k.least).natAbs<2^250;omega
  dsimp only[eI];have eh:(p.2-k.least)*2^(((k.frac+1:ag):ae)-1).toNat+(if p.1<0 then-p.1 else p.1)=(p.2-k.least)*2^k.frac+(p.1.natAbs:ae):=by
   rw[AK]
   congr 3
   omega
  rw[eh];refine⟨_,J,a,_,_,_,J,J,hp,J,_,_,J,J,_,J,d6 (λc2=>?_) λc2=>?_⟩
  ·have c2:p.1<0:=dG c2
   refine⟨_,J,_,J,c,CK,dx,_,_,J,hc,T.cl,T.ns,DZ k,_,_,J,J,⟨?_,?_,by show(1:ae).natAbs<2^250;decide⟩,_,_,J,J,kk.Hm ?_⟩
   ·omega
   ·omega
   ·unfold oa
    rw[ay c1,aK c2,kI,Af]
  ·have c2:¬p.1<0:=λz=>c2<|dF z
   refine⟨_,J,kk.Hm ?_⟩;unfold oa;rw[ay c1,ay c2]
inductive Wh(CK:ak)(vs:af V)(H:Hp)(Q:VK)(lu:XK):Prop
 |mk:∀(p dx:ak)(k:aB),vs=[.ref p,.int (k.frac+1:ag),.int k.least,.int<|Bw.aO k,.int (k.frac+k.expo:ag),.int k.lanes]->H p=L (.ins CK dx [])->(∀H',H' p=L (.ins CK dx<|kf k)->(∀b o,H b=L o->b≠p->H' b=L o)->Q .cu H')->Wh CK vs H Q lu
theorem scKI:bF ["self","digits","least","greatest","sign_bit","lanes"] ["self","digits","least","greatest","sign_bit","lanes"] (ba<|sK 0):=fs
theorem UE(F:bh K "__init__" "Kind.__init__" (sK 0) f fd)(T:jg K mg M CK):aD P w K mg base ib 1 f fd ["self","digits","least","greatest","sign_bit","lanes"]<|Wh CK:=by
 refine F.ok scKI (λvs H Q E h=>?_) λcj A bA s H vs Q E hr h=>?_
 ·obtain⟨p,dx,k,rfl,_⟩:=h
  rfl
 ·obtain⟨p,dx,k,rfl,hp,kk⟩:=h
  refine⟨_,aG (dM (O 0) (O 1) J)<|aG (dM (O 0) (O 2) J) (aG (dM (O 0) (O 3) J)<|aG (dM (O 0) (O 4) J) (aR<|dM (O 0) (O 5) J)),?_⟩;refine⟨_,J,_,J,p,CK,dx,_,J,hp,T.cl,T.nd,(by decide),?_⟩;refine⟨_,J,_,J,p,CK,dx,_,J,bw,T.cl,T.nl,(by show 1<1000;decide),?_⟩;refine⟨_,J,_,J,p,CK,dx,_,J,bw,T.cl,T.ng,(by show 2<1000;decide),?_⟩;refine⟨_,J,_,J,p,CK,dx,_,J,bw,T.cl,T.ns,(by show 3<1000;decide),?_⟩;refine⟨_,J,_,J,p,CK,dx,_,J,bw,T.cl,T.TY,(by show 4<1000;decide),?_⟩;exact kk _ bw λb o e hb=>by rw[bJ hb,bJ hb,bJ hb,bJ hb,bJ hb];exact e
abbrev Vp:dq:=aO 14
abbrev Vq:dq:=aO 15
abbrev xT(M CK:ak)(k:aB):Sp:=cU M cg (RK CK k) λ_=>L ()
theorem scMkD:bF [] []<|ba Vp:=fs
theorem scMkS:bF [] []<|ba Vq:=fs
theorem ok_mkD(F:bh K "make_doubles" "make_doubles" Vp f fd)(T:jg K mg M CK)(aJ:Mk K CK f1)(F1:bh K "__init__" "Kind.__init__" (sK 0) f1 bZ)(b1:Binds K bZ ["self","digits","least","greatest","sign_bit","lanes"] []):aD P w K mg base ib 3 f fd []<|xT M CK Aw:=by
 have O1:aD P w K mg base ib 1 f1 bZ _ _:=UE F1 T;refine F.ok scMkD (λvs H Q E h=>?_) λcj A bA s H vs Q E hr h=>?_
 ·obtain⟨t,rfl,_⟩:=h
  rfl
 ·obtain⟨t,rfl,kk⟩:=h
  refine⟨_,aR<|bp (oN aJ O1 hr J T.Th b1 .nil xF<|dC a_ (dC (xH xY a_)<|bG a_ a_ a_)),?_⟩;refine⟨_,J,λx dx n0 n1 n2=>⟨x,dx,Aw,J,bw,λU h1 h2=>⟨J,?_⟩⟩⟩;exact kk.ok U _ () (az.made n0 n1 h2) J ⟨.inl J,x,dx,J,h1⟩
theorem ok_mkS(F:bh K "make_singles" "make_singles" Vq f fd)(T:jg K mg M CK)(aJ:Mk K CK f1)(F1:bh K "__init__" "Kind.__init__" (sK 0) f1 bZ)(b1:Binds K bZ ["self","digits","least","greatest","sign_bit","lanes"] []):aD P w K mg base ib 3 f fd []<|xT M CK Ay:=by
 have O1:aD P w K mg base ib 1 f1 bZ _ _:=UE F1 T;refine F.ok scMkS (λvs H Q E h=>?_) λcj A bA s H vs Q E hr h=>?_
 ·obtain⟨t,rfl,_⟩:=h
  rfl
 ·obtain⟨t,rfl,kk⟩:=h
  refine⟨_,aR<|bp (oN aJ O1 hr J T.Th b1 .nil xF<|dC a_ (dC (xH xY a_)<|bG a_ a_ a_)),?_⟩;refine⟨_,J,λx dx n0 n1 n2=>⟨x,dx,Ay,J,bw,λU h1 h2=>⟨J,?_⟩⟩⟩;exact kk.ok U _ () (az.made n0 n1 h2) J ⟨.inr J,x,dx,J,h1⟩
end
end BW
namespace BW
open PySem PySem.Spec PyProof.Rows L2
open Bw (bV cV bg cq)
theorem _root_.L2.NT.cZ{R R':bE α}{r:au α}(h:NT C E R r σ H te)(w:∀H v y,R H v y->R' H v y):NT C E R' r σ H te:=λU Q s k=>
 h U Q s ⟨λH' v z s' e q=>k.ok H' v z s' e<|w _ _ _ q,k.no⟩
section
variable(P:cO)(w:World)(K:aq)(mg:ax->au aH)(base:b9)(M CK:ak)
inductive oq(x:ax)(ps:af ax)(sp:aB->Sp):Prop
 |mk:∀(f:ak)(fd:c7),pq K CK x f->Binds K fd ps []->(∀k,aD P w K mg base (aQ P w M) 4 f fd ps<|sp k)->oq x ps sp
inductive cX(l:ag)(x:ax)(ps:af ax)(sp:aB->Sp):Prop
 |mk:∀(f:ak)(fd:c7),mg x=L (.ref f)->jx K (.ref f)=ao->Binds K fd ps []->(∀k,aD P w K mg base (aQ P w M) l f fd ps (sp k))->cX l x ps sp
structure KM:Prop where
 T:jg K mg M CK
 add:oq P w K mg base M CK "plus" ["self","x","y"] λk=>rg K M CK k (eY k)
 sub:oq P w K mg base M CK "minus" ["self","x","y"] λk=>rg K M CK k (C7 k)
 mul:oq P w K mg base M CK "times" ["self","x","y"] λk=>rg K M CK k (iE k)
 div:oq P w K mg base M CK "over" ["self","x","y"] λk=>Jb K M CK k (yy k)
 root:oq P w K mg base M CK "root" ["self","x"] λk=>Ja K M CK k (wG k)
 ma:oq P w K mg base M CK "fused" ["self","x","y","z"] λk=>qD K M CK k (uo k)
 ms:oq P w K mg base M CK "fused_less" ["self","x","y","z"] λk=>qD K M CK k (wF k)
 nma:oq P w K mg base M CK "less_fused" ["self","x","y","z"] λk=>qD K M CK k (Kx k)
 nms:oq P w K mg base M CK "fused_opposite" ["self","x","y","z"] λk=>qD K M CK k<|Qp k
end
theorem cX.c{p pos:gW}(A:cX X.prog X.w X.K X.mg X.base M l x ps sp)(k:aB)(hr:eF n X.A)(hx:mq (aQ X.prog X.w M) X E)(ha:PA X (e::es) t)(hl:l<=n:=by decide)(hg:Gl X x:=by exact J)(oI:(x=="__debug__")=aM:=by decide)(he:dv (e::es) X.env=(aM,dg e X.env)::dv es X.env:=by rfl)(fw:(jC pos<|dv es X.env).any (·.1)=aM:=by rfl):PE X (.Call (.Name x p) (e::es) [] pos)<|d_ (sp k) [] E t:=by
 obtain⟨f,fd,m,k1,b,je⟩:=A;exact cM (je k) (hr.aV hl) hg m k1 b .nil hx ha oI he fw
inductive R3(K:aq)(k:aB)(H:Hp)(v:V)(p:dR):Prop
 |mk:∀a x y z,v= .ref a->cH K H a [x,y,z]->RC K k H x p.x->RC K k H y p.y->RC K k H z p.z->R3 K k H v p
theorem bS{K:aq}:cY<|R3 K k:=λ_ _ _ _ s dm=>by obtain⟨a,x,y,z,e,h,h1,h2,h3⟩:=dm;exact⟨a,x,y,z,e,s.tup h,aI.up s h1,aI.up s h2,aI.up s h3⟩
def kW(m:ax):Prop:=¬m="sign_bit"/\ ¬m="greatest"/\ ¬m="least"/\ ¬m="digits"/\ ¬m="lanes"
section
variable{K:aq}{M CK:ak}{E:XK}{σ:L2.St}{H:Hp}{te t1 t2 t3:TE}{k:aB}{m:ax}
theorem qf(n:kW m)(h0:NT M E (RK CK k) (L ()) σ H te)(h1:NT M E (RN K k) r σ H t1)(h2:NT M E (RN K k) s σ H t2):NT M E (RC K k) (r.bind λa=>s.bind λb=>g a b) σ H<|eE CK m (rg K M CK k g) [] E te (aU t1<|aU t2 b8):=NT.eq (oJ h0 aN (λ_ _=>vD n.1 n.2.1 n.2.2.1 n.2.2.2.1 n.2.2.2.2) (aF eP h1<|aF eP h2 bR))<|by cases r<;>cases s<;>rfl
theorem nt_m2c(n:kW m)(h0:NT M E (RK CK k) (L ()) σ H te)(h1:NT M E (RC K k) r σ H t1)(h2:NT M E (RC K k) s σ H t2):NT M E (RC K k) (r.bind λa=>s.bind λb=>g a b) σ H<|eE CK m (Jb K M CK k g) [] E te (aU t1<|aU t2 b8):=NT.eq (oJ h0 aN (λ_ _=>vD n.1 n.2.1 n.2.2.1 n.2.2.2.1 n.2.2.2.2) (aF aI h1<|aF aI h2 bR))<|by cases r<;>cases s<;>rfl
theorem Um(n:kW m)(h0:NT M E (RK CK k) (L ()) σ H te)(h1:NT M E (RC K k) r σ H t1):NT M E (RC K k) (r.bind g) σ H (eE CK m (Ja K M CK k g) [] E te<|aU t1 b8):=NT.eq (oJ h0 aN (λ_ _=>vD n.1 n.2.1 n.2.2.1 n.2.2.2.1 n.2.2.2.2)<|aF aI h1 bR)<|by cases r<;>rfl
theorem uZ(n:kW m)(h0:NT M E (RK CK k) (L ()) σ H te)(h1:NT M E (RN K k) r σ H t1)(h2:NT M E (RN K k) s σ H t2)(h3:NT M E (RN K k) t σ H t3):NT M E (RC K k) (r.bind λa=>s.bind λb=>t.bind λc=>g a b c) σ H (eE CK m (qD K M CK k g) [] E te<|aU t1 (aU t2<|aU t3 b8)):=NT.eq (oJ h0 aN (λ_ _=>vD n.1 n.2.1 n.2.2.1 n.2.2.2.1 n.2.2.2.2)<|aF eP h1 (aF eP h2<|aF eP h3 bR))<|by cases r<;>cases s<;>cases t<;>rfl
theorem jj(h:NT M E (R3 K k) (L p) σ H te):NT M E (RC K k) (L p.x) σ H<|bY (dI K) te (tC<|.int 0):=kC 0 h λ_ _ dW=>by obtain⟨a,x,y,z,e,q,h1,_,_⟩:=dW;exact⟨a,_,x,e,q,J,h1⟩
theorem jk(h:NT M E (R3 K k) (L p) σ H te):NT M E (RC K k) (L p.y) σ H<|bY (dI K) te (tC<|.int 1):=kC 1 h λ_ _⟨a,x,y,z,e,q,_,h1,_⟩=>⟨a,_,y,e,q,J,h1⟩
theorem jl(h:NT M E (R3 K k) (L p) σ H te):NT M E (RC K k) (L p.z) σ H<|bY (dI K) te (tC<|.int 2):=kC 2 h λ_ _⟨a,x,y,z,e,q,_,_,h1⟩=>⟨a,_,z,e,q,J,h1⟩
theorem qg(h1:NT M E (RC K k) r σ H t1)(h2:NT M E (RC K k) s σ H t2)(h3:NT M E (RC K k) t σ H t3):NT M E (R3 K k) (wD r s t) σ H (lq<|aU t1 (aU t2<|aU t3 b8)):=NT.eq (zE (f:=λx=>L ⟨x.1,x.2.1,x.2.2.1⟩) (aF aI h1 (aF aI h2<|aF aI h3 bR))
  (λ_ _ _ Pe=>by obtain⟨v,r,e,_,v2,r2,e2,_,v3,r3,e3,_,e4⟩:=Pe;subst e e2 e3 e4;show 3<=bI;decide)
  (λ_ _ y p Ac hp=>by obtain⟨v,r,e,q1,v2,r2,e2,q2,v3,r3,e3,q3,e4⟩:=Ac;subst e e2 e3 e4;exact⟨_,J,p,v,v2,v3,J,cH.of hp,q1,q2,q3⟩)
  (mH aI (mH aI<|mH aI zt))) (by unfold wD;cases r<;>cases s<;>cases t<;>rfl)
end
abbrev rh(K:aq)(M CK:ak)(k:aB)(g:dR->dR->au dR):Sp:=cU M (aE (RK CK k) (aE (R3 K k)<|aE (R3 K k) cg)) (R3 K k) λx=>g x.2.1 x.2.2.1
section
variable{P:cO}{w:World}{K:aq}{mg:ax->au aH}{base:b9}{M CK:ak}
theorem p_(m:ax)(h:(decide (¬m="sign_bit")&&decide (¬m="greatest")&&decide (¬m="least")&&decide (¬m="digits")&&decide (¬m="lanes"))=ao):kW m:=by
 rw[eX,eX,eX,eX] at h;exact⟨dG h.1.1.1.1,dG h.1.1.1.2,dG h.1.1.2,dG h.1.2,dG h.2⟩
theorem TZ:kW "plus":=p_ _ dk
theorem noMinus:kW "minus":=p_ _ dk
theorem uV:kW "times":=p_ _ dk
theorem noOver:kW "over":=p_ _ dk
theorem T5:kW "root":=p_ _ dk
theorem HD:kW "fused":=p_ _ dk
theorem Mx:kW "fused_less":=p_ _ dk
theorem noLessFused:kW "less_fused":=p_ _ dk
theorem noFusedOpp:kW "fused_opposite":=p_ _ dk
section
variable{E:XK}{σ:L2.St}{H:Hp}{te t1 t2 t3:TE}{k:aB}{r s t:au ag}
theorem uW(hk:bV k)(h0:NT M E (RK CK k) (L ()) σ H te)(h1:NT M E (RC K k) r σ H t1)(h2:NT M E (RC K k) s σ H t2):NT M E (RC K k) (r.bind λa=>s.bind λb=>eY k a b) σ H (eE CK "plus" (rg K M CK k<|eY k) [] E te (aU t1<|aU t2 b8)):=qf TZ h0 (h1.cZ λ_ _ _=>dS hk) (h2.cZ λ_ _ _=>dS hk)
theorem BD(hk:bV k)(h0:NT M E (RK CK k) (L ()) σ H te)(h1:NT M E (RC K k) r σ H t1)(h2:NT M E (RC K k) s σ H t2):NT M E (RC K k) (r.bind λa=>s.bind λb=>C7 k a b) σ H (eE CK "minus" (rg K M CK k<|C7 k) [] E te (aU t1<|aU t2 b8)):=qf noMinus h0 (h1.cZ λ_ _ _=>dS hk) (h2.cZ λ_ _ _=>dS hk)
theorem qX(hk:bV k)(h0:NT M E (RK CK k) (L ()) σ H te)(h1:NT M E (RC K k) r σ H t1)(h2:NT M E (RC K k) s σ H t2):NT M E (RC K k) (r.bind λa=>s.bind λb=>iE k a b) σ H (eE CK "times" (rg K M CK k<|iE k) [] E te (aU t1<|aU t2 b8)):=qf uV h0 (h1.cZ λ_ _ _=>dS hk) (h2.cZ λ_ _ _=>dS hk)
theorem zy(h0:NT M E (RK CK k) (L ()) σ H te)(h1:NT M E (RC K k) r σ H t1)(h2:NT M E (RC K k) s σ H t2):NT M E (RC K k) (r.bind λa=>s.bind λb=>yy k a b) σ H (eE CK "over" (Jb K M CK k<|yy k) [] E te (aU t1<|aU t2 b8)):=nt_m2c noOver h0 h1 h2
theorem nt_root(h0:NT M E (RK CK k) (L ()) σ H te)(h1:NT M E (RC K k) r σ H t1):NT M E (RC K k) (r.bind<|wG k) σ H<|eE CK "root" (Ja K M CK k<|wG k) [] E te<|aU t1 b8:=Um T5 h0 h1
theorem qW(hk:bV k)(h0:NT M E (RK CK k) (L ()) σ H te)(h1:NT M E (RC K k) r σ H t1)(h2:NT M E (RC K k) s σ H t2)(h3:NT M E (RC K k) t σ H t3):NT M E (RC K k) (r.bind λa=>s.bind λb=>t.bind λc=>uo k a b c) σ H (eE CK "fused" (qD K M CK k<|uo k) [] E te<|aU t1 (aU t2<|aU t3 b8)):=uZ HD h0 (h1.cZ λ_ _ _=>dS hk) (h2.cZ λ_ _ _=>dS hk) (h3.cZ λ_ _ _=>dS hk)
theorem Uo(hk:bV k)(h0:NT M E (RK CK k) (L ()) σ H te)(h1:NT M E (RC K k) r σ H t1)(h2:NT M E (RC K k) s σ H t2)(h3:NT M E (RC K k) t σ H t3):NT M E (RC K k) (r.bind λa=>s.bind λb=>t.bind λc=>wF k a b c) σ H (eE CK "fused_less" (qD K M CK k<|wF k) [] E te<|aU t1 (aU t2<|aU t3 b8)):=uZ Mx h0 (h1.cZ λ_ _ _=>dS hk) (h2.cZ λ_ _ _=>dS hk) (h3.cZ λ_ _ _=>dS hk)
theorem HV(hk:bV k)(h0:NT M E (RK CK k) (L ()) σ H te)(h1:NT M E (RC K k) r σ H t1)(h2:NT M E (RC K k) s σ H t2)(h3:NT M E (RC K k) t σ H t3):NT M E (RC K k) (r.bind λa=>s.bind λb=>t.bind λc=>Kx k a b c) σ H (eE CK "less_fused" (qD K M CK k<|Kx k) [] E te<|aU t1 (aU t2<|aU t3 b8)):=uZ noLessFused h0 (h1.cZ λ_ _ _=>dS hk) (h2.cZ λ_ _ _=>dS hk) (h3.cZ λ_ _ _=>dS hk)
end
end
end BW
namespace BW
open PySem PySem.Spec PyProof.Rows L2
open Bw (bV cV bg cq)
abbrev N0(K:aq)(M CK:ak)(k:aB)(g:ag->dR->au dR):Sp:=cU M (aE (RK CK k) (aE (RC K k)<|aE (R3 K k) cg)) (R3 K k) λx=>g x.2.1 x.2.2.1
abbrev N2(K:aq)(M CK:ak)(k:aB)(g:dR->ag->au dR):Sp:=cU M (aE (RK CK k) (aE (R3 K k)<|aE (RC K k) cg)) (R3 K k) λx=>g x.2.1 x.2.2.1
abbrev Fe(K:aq)(M CK:ak)(k:aB)(g:dR->ag->dR->au dR):Sp:=cU M (aE (RK CK k)<|aE (R3 K k) (aE (RC K k)<|aE (R3 K k) cg)) (R3 K k) λx=>g x.2.1 x.2.2.1 x.2.2.2.1
abbrev N3(K:aq)(M CK:ak)(k:aB)(g:dR->dR->au ag):Sp:=cU M (aE (RK CK k) (aE (R3 K k)<|aE (R3 K k) cg)) (RC K k) λx=>g x.2.1 x.2.2.1
abbrev Ff(K:aq)(M CK:ak)(k:aB)(g:ag->ag->ag->ag->au ag):Sp:=cU M (aE (RK CK k) (aE (RC K k)<|aE (RC K k) (aE (RC K k)<|aE (RC K k) cg))) (RC K k) λx=>g x.2.1 x.2.2.1 x.2.2.2.1 x.2.2.2.2.1
section
variable{P:cO}{w:World}{K:aq}{mg:ax->au aH}{base:b9}{M CK:ak}
theorem sc_added:bF ["kind","a","b"] ["kind","a","b"] (ba<|aO 17):=fs
theorem ok_added(F:bh K "added" "added" (aO 17) f fd)(aJ:KM P w K mg base M CK)(k:aB):aD P w K mg base (aQ P w M) 5 f fd ["kind","a","b"] (rh K M CK k<|iZ k):=by
 obtain⟨f1,bZ,M1,b1,O1⟩:=aJ.add;refine F.p3 sc_added λH Q E _ p2 p3 w1 w2 w3 hr h1 h2 h3 kk=>?_;refine⟨_,aR (bp<|fV (bG (bW (O 0) aJ.T.cl M1 (O1 k) hr b1 .nil aA (bK (aX<|O 1) (aX<|O 2))) (bW (O 0) aJ.T.cl M1 (O1 k) hr b1 .nil aA (bK (aX<|O 1) (aX<|O 2)))<|bW (O 0) aJ.T.cl M1 (O1 k) hr b1 .nil aA (bK (aX<|O 1) (aX<|O 2)))),?_⟩;have v0:NT M E _ _ [L w1,L w2,L w3] H<|aw 0:=aj J aN h1;have v1:NT M E (R3 K k) _ [L w1,L w2,L w3] H<|aw 1:=aj J bS h2;have v2:NT M E (R3 K k) _ [L w1,L w2,L w3] H<|aw 2:=aj J bS h3;exact kk.by (qg (uW h1.1 v0 (jj v1)<|jj v2) (uW h1.1 v0 (jk v1)<|jk v2) (uW h1.1 v0 (jl v1)<|jl v2))
theorem sc_taken_off:bF ["kind","a","b"] ["kind","a","b"] (ba<|aO 18):=fs
theorem ok_taken_off(F:bh K "taken_off" "taken_off" (aO 18) f fd)(aJ:KM P w K mg base M CK)(k:aB):aD P w K mg base (aQ P w M) 5 f fd ["kind","a","b"] (rh K M CK k<|xj k):=by
 obtain⟨f1,bZ,M1,b1,O1⟩:=aJ.sub;refine F.p3 sc_taken_off λH Q E _ p2 p3 w1 w2 w3 hr h1 h2 h3 kk=>?_;refine⟨_,aR (bp<|fV (bG (bW (O 0) aJ.T.cl M1 (O1 k) hr b1 .nil aA (bK (aX<|O 1) (aX<|O 2))) (bW (O 0) aJ.T.cl M1 (O1 k) hr b1 .nil aA (bK (aX<|O 1) (aX<|O 2)))<|bW (O 0) aJ.T.cl M1 (O1 k) hr b1 .nil aA (bK (aX<|O 1) (aX<|O 2)))),?_⟩;have v0:NT M E _ _ [L w1,L w2,L w3] H<|aw 0:=aj J aN h1;have v1:NT M E _ _ [L w1,L w2,L w3] H<|aw 1:=aj J bS h2;have v2:NT M E (R3 K k) _ [L w1,L w2,L w3] H<|aw 2:=aj J bS h3;exact kk.by (qg (BD h1.1 v0 (jj v1)<|jj v2) (BD h1.1 v0 (jk v1)<|jk v2) (BD h1.1 v0 (jl v1)<|jl v2))
theorem sc_each_times:bF ["kind","a","b"] ["kind","a","b"] (ba<|aO 19):=fs
theorem ok_each_times(F:bh K "each_times" "each_times" (aO 19) f fd)(aJ:KM P w K mg base M CK)(k:aB):aD P w K mg base (aQ P w M) 5 f fd ["kind","a","b"] (rh K M CK k<|yz k):=by
 obtain⟨f1,bZ,M1,b1,O1⟩:=aJ.mul;refine F.p3 sc_each_times λH Q E _ p2 p3 w1 w2 w3 hr h1 h2 h3 kk=>?_;refine⟨_,aR (bp<|fV (bG (bW (O 0) aJ.T.cl M1 (O1 k) hr b1 .nil aA (bK (aX<|O 1) (aX<|O 2))) (bW (O 0) aJ.T.cl M1 (O1 k) hr b1 .nil aA (bK (aX<|O 1) (aX<|O 2)))<|bW (O 0) aJ.T.cl M1 (O1 k) hr b1 .nil aA (bK (aX<|O 1) (aX<|O 2)))),?_⟩;have v0:NT M E _ _ [L w1,L w2,L w3] H<|aw 0:=aj J aN h1;have v1:NT M E (R3 K k) _ [L w1,L w2,L w3] H<|aw 1:=aj J bS h2;have v2:NT M E (R3 K k) (L p3) [L w1,L w2,L w3] H<|aw 2:=aj J bS h3;exact kk.by (qg (qX h1.1 v0 (jj v1)<|jj v2) (qX h1.1 v0 (jk v1)<|jk v2) (qX h1.1 v0 (jl v1)<|jl v2))
theorem sc_scaled:bF ["kind","c","d"] ["kind","c","d"] (ba<|aO 20):=fs
theorem ok_scaled(F:bh K "scaled" "scaled" (aO 20) f fd)(aJ:KM P w K mg base M CK)(k:aB):aD P w K mg base (aQ P w M) 5 f fd ["kind","c","d"] (N0 K M CK k<|wH k):=by
 obtain⟨f1,bZ,M1,b1,O1⟩:=aJ.mul;refine F.p3 sc_scaled λH Q E _ p2 p3 w1 w2 w3 hr h1 h2 h3 kk=>?_;refine⟨_,aR (bp (fV (bG (bW (O 0) aJ.T.cl M1 (O1 k) hr b1 .nil aA<|bK (O 1) (aX<|O 2)) (bW (O 0) aJ.T.cl M1 (O1 k) hr b1 .nil aA<|bK (O 1) (aX<|O 2)) (bW (O 0) aJ.T.cl M1 (O1 k) hr b1 .nil aA<|bK (O 1) (aX<|O 2))))),?_⟩;have v0:NT M E _ _ [L w1,L w2,L w3] H<|aw 0:=aj J aN h1;have v1:NT M E (RC K k) (L p2) [L w1,L w2,L w3] H<|aw 1:=aj J aI h2;have v2:NT M E (R3 K k) (L p3) [L w1,L w2,L w3] H<|aw 2:=aj J bS h3;exact kk.by (qg (qX h1.1 v0 v1<|jj v2) (qX h1.1 v0 v1<|jk v2) (qX h1.1 v0 v1<|jl v2))
theorem sc_divided:bF ["kind","d","c"] ["kind","d","c"] (ba<|aO 21):=fs
theorem ok_divided(F:bh K "divided" "divided" (aO 21) f fd)(aJ:KM P w K mg base M CK)(k:aB):aD P w K mg base (aQ P w M) 5 f fd ["kind","d","c"] (N2 K M CK k<|Qq k):=by
 obtain⟨f1,bZ,M1,b1,O1⟩:=aJ.div;refine F.p3 sc_divided λH Q E _ p2 p3 w1 w2 w3 hr h1 h2 h3 kk=>?_;refine⟨_,aR (bp (fV (bG (bW (O 0) aJ.T.cl M1 (O1 k) hr b1 .nil aA<|bK (aX<|O 1)<|O 2) (bW (O 0) aJ.T.cl M1 (O1 k) hr b1 .nil aA<|bK (aX<|O 1)<|O 2) (bW (O 0) aJ.T.cl M1 (O1 k) hr b1 .nil aA<|bK (aX<|O 1)<|O 2)))),?_⟩;have v0:NT M E _ (L ()) [L w1,L w2,L w3] H<|aw 0:=aj J aN h1;have v1:NT M E (R3 K k) (L p2) [L w1,L w2,L w3] H<|aw 1:=aj J bS h2;have v2:NT M E (RC K k) (L p3) [L w1,L w2,L w3] H<|aw 2:=aj J aI h3;exact kk.by (qg (zy v0 (jj v1) v2) (zy v0 (jk v1) v2)<|zy v0 (jl v1) v2)
theorem VL:bF ["kind","p","c","d"] ["kind","p","c","d"] (ba<|aO 22):=fs
theorem ok_along{f:ak}(F:bh K "along" "along" (aO 22) f fd)(aJ:KM P w K mg base M CK)(k:aB):aD P w K mg base (aQ P w M) 5 f fd ["kind","p","c","d"]<|Fe K M CK k λp c d=>ja k c d p:=by
 obtain⟨f1,bZ,M1,b1,O1⟩:=aJ.ma;refine F.p4 VL λH Q E _ p2 p3 p4 w1 w2 w3 w4 hr h1 h2 h3 h4 kk=>?_;refine⟨_,aR (bp<|fV (bG (bW (O 0) aJ.T.cl M1 (O1 k) hr b1 .nil aA (bG (O 2) (aX<|O 3) (aX<|O 1))) (bW (O 0) aJ.T.cl M1 (O1 k) hr b1 .nil aA (bG (O 2) (aX<|O 3) (aX<|O 1)))<|bW (O 0) aJ.T.cl M1 (O1 k) hr b1 .nil aA (bG (O 2) (aX<|O 3) (aX<|O 1)))),?_⟩;have v0:NT M E (RK CK k) (L ()) [L w1,L w2,L w3,L w4] H<|aw 0:=aj J aN h1;have v1:NT M E (R3 K k) (L p2) [L w1,L w2,L w3,L w4] H<|aw 1:=aj J bS h2;have v2:NT M E (RC K k) (L p3) [L w1,L w2,L w3,L w4] H<|aw 2:=aj J aI h3;have v3:NT M E (R3 K k) (L p4) [L w1,L w2,L w3,L w4] H<|aw 3:=aj J bS h4;exact kk.by (qg (qW h1.1 v0 v2 (jj v3)<|jj v1) (qW h1.1 v0 v2 (jk v3)<|jk v1) (qW h1.1 v0 v2 (jl v3)<|jl v1))
theorem sc_against:bF ["kind","p","c","d"] ["kind","p","c","d"] (ba<|aO 23):=fs
theorem ok_against{f:ak}{fd:c7}(F:bh K "against" "against" (aO 23) f fd)(aJ:KM P w K mg base M CK)(k:aB):aD P w K mg base (aQ P w M) 5 f fd ["kind","p","c","d"]<|Fe K M CK k λp c d=>yx k c d p:=by
 obtain⟨f1,bZ,M1,b1,O1⟩:=aJ.nma;refine F.p4 sc_against λH Q E _ p2 p3 p4 w1 w2 w3 w4 hr h1 h2 h3 h4 kk=>?_;refine⟨_,aR (bp<|fV (bG (bW (O 0) aJ.T.cl M1 (O1 k) hr b1 .nil aA (bG (O 2) (aX<|O 3) (aX<|O 1))) (bW (O 0) aJ.T.cl M1 (O1 k) hr b1 .nil aA (bG (O 2) (aX<|O 3) (aX<|O 1)))<|bW (O 0) aJ.T.cl M1 (O1 k) hr b1 .nil aA (bG (O 2) (aX<|O 3) (aX<|O 1)))),?_⟩;have v0:NT M E (RK CK k) (L ()) [L w1,L w2,L w3,L w4] H<|aw 0:=aj J aN h1;have v1:NT M E (R3 K k) (L p2) [L w1,L w2,L w3,L w4] H<|aw 1:=aj J bS h2;have v2:NT M E (RC K k) (L p3) [L w1,L w2,L w3,L w4] H<|aw 2:=aj J aI h3;have v3:NT M E (R3 K k) (L p4) [L w1,L w2,L w3,L w4] H<|aw 3:=aj J bS h4;exact kk.by (qg (HV h1.1 v0 v2 (jj v3)<|jj v1) (HV h1.1 v0 v2 (jk v3)<|jk v1) (HV h1.1 v0 v2 (jl v3)<|jl v1))
theorem NM:bF ["kind","a","b","s"] ["kind","a","b"] (ba<|aO 24):=fs
theorem ok_dot{f:ak}{fd:c7}(F:bh K "dot" "dot" (aO 24) f fd)(aJ:KM P w K mg base M CK)(k:aB):aD P w K mg base (aQ P w M) 5 f fd ["kind","a","b"] (N3 K M CK k<|mr k):=by
 obtain⟨f1,bZ,M1,b1,O1⟩:=aJ.mul;obtain⟨f2,di,M2,b2,O2⟩:=aJ.ma;refine F.p3 NM λH Q E _ p2 p3 w1 w2 w3 hr h1 h2 h3 kk=>?_;refine⟨_,aG (bC 3 NM.nd<|bW (O 0) aJ.T.cl M1 (O1 k) hr b1 .nil aA (bK (aX<|O 1) (aX<|O 2))) (aG (bC 3 NM.nd<|bW (O 0) aJ.T.cl M2 (O2 k) hr b2 .nil aA (bG (aX<|O 1) (aX<|O 2)<|O 3)) (aR (bp<|bW (O 0) aJ.T.cl M2 (O2 k) hr b2 .nil aA (bG (aX<|O 1) (aX<|O 2)<|O 3)))),?_⟩;have v0:NT M E (RK CK k) (L ()) [L w1,L w2,L w3,ah] H<|aw 0:=aj J aN h1;have v1:NT M E (R3 K k) (L p2) [L w1,L w2,L w3,ah] H<|aw 1:=aj J bS h2;have v2:NT M E (R3 K k) (L p3) [L w1,L w2,L w3,ah] H<|aw 2:=aj J bS h3;refine bQ.bind (rb:=iE k p2.x p3.x) kk (qX h1.1 v0 (jj v1)<|jj v2) λy1 u1 U s1 _ q1 k1=>?_;have v0:∀u,NT M E (RK CK k) (L ()) [L w1,L w2,L w3,L u] H<|aw 0:=λu=>aj J aN h1;have v1:∀u,NT M E (R3 K k) (L p2) [L w1,L w2,L w3,L u] H<|aw 1:=λu=>aj J bS h2;have v2:∀u,NT M E (R3 K k) (L p3) [L w1,L w2,L w3,L u] H<|aw 2:=λu=>aj J bS h3;have v3:NT M E (RC K k) (L y1) [L w1,L w2,L w3,L u1] U<|aw 3:=aj J aI q1;refine bQ.bind (rb:=uo k p2.y p3.y y1) k1 (qW h1.1 ((v0 u1).at_ s1) (jk<|(v1 u1).at_ s1) (jk<|(v2 u1).at_ s1) v3) λy2 u2 H2 s2 _ q2 k2=>?_;have v3:NT M E (RC K k) (L y2) [L w1,L w2,L w3,L u2] H2<|aw 3:=aj J aI q2;exact k2.by (qW h1.1 ((v0 u2).at_<|s1.trans s2) (jl ((v1 u2).at_<|s1.trans s2)) (jl ((v2 u2).at_<|s1.trans s2)) v3)
end
end BW
namespace BW
open PySem PySem.Spec PyProof.Rows L2
open Bw (bV cV bg cq)
section
variable{P:cO}{w:World}{K:aq}{mg:ax->au aH}{base:b9}{M CK:ak}
def Ll(k:aB)(p q r s:ag):au ag:=(iE k r s).bind λw=>wF k p q w
theorem sc_plain:bF ["kind","p","q","r","s"] ["kind","p","q","r","s"] (ba<|aO 26):=fs
theorem UG(F:bh K "plain_difference" "plain_difference" (aO 26) f fd)(aJ:KM P w K mg base M CK)(k:aB):aD P w K mg base (aQ P w M) 5 f fd ["kind","p","q","r","s"] (Ff K M CK k<|Ll k):=by
 obtain⟨f1,bZ,M1,b1,O1⟩:=aJ.mul;obtain⟨f2,di,M2,b2,O2⟩:=aJ.ms;refine F.p5 sc_plain λH Q E _ p2 p3 p4 p5 w1 w2 w3 w4 w5 hr h1 h2 h3 h4 h5 kk=>?_;refine⟨_,aR (bp<|bW (O 0) aJ.T.cl M2 (O2 k) hr b2 .nil aA (bG (O 1) (O 2)<|bW (O 0) aJ.T.cl M1 (O1 k) hr b1 .nil aA (bK (O 3)<|O 4))),?_⟩;have v0:NT M E _ _ [L w1,L w2,L w3,L w4,L w5] H<|aw 0:=aj J aN h1;exact kk.by<|Uo h1.1 v0 (aj J aI h2) (aj J aI h3) (qX h1.1 v0 (aj J aI h4)<|aj J aI h5)
theorem IT:bF ["kind","p","q","r","s","w","e","f"] ["kind","p","q","r","s"] (ba<|aO 27):=fs
theorem ok_mended(F:bh K "mended_difference" "mended_difference" (aO 27) f fd)(aJ:KM P w K mg base M CK)(k:aB):aD P w K mg base (aQ P w M) 5 f fd ["kind","p","q","r","s"] (Ff K M CK k<|Rb49.lessProduct k):=by
 obtain⟨f1,bZ,M1,b1,O1⟩:=aJ.mul;obtain⟨f2,di,M2,b2,O2⟩:=aJ.ms;obtain⟨f3,fv,M3,b3,O3⟩:=aJ.nma;obtain⟨f4,ig,M4,b4,O4⟩:=aJ.add;refine F.p5 IT λH Q E _ p2 p3 p4 p5 w1 w2 w3 w4 w5 hr h1 h2 h3 h4 h5 kk=>?_
 refine⟨_,aG (bC 5 IT.nd<|bW (O 0) aJ.T.cl M1 (O1 k) hr b1 .nil aA (bK (O 3)<|O 4))
  (aG (bC 6 IT.nd<|bW (O 0) aJ.T.cl M3 (O3 k) hr b3 .nil aA (bG (O 3) (O 4)<|O 5))
  (aG (bC 7 IT.nd<|bW (O 0) aJ.T.cl M2 (O2 k) hr b2 .nil aA (bG (O 1) (O 2)<|O 5))
  (aR (bp<|bW (O 0) aJ.T.cl M4 (O4 k) hr b4 .nil aA (bK (O 7)<|O 6))))),?_⟩
 refine bQ.bind kk (qX h1.1 (aj J aN h1) (aj J aI h4)<|aj J aI h5) λy1 u1 U s1 _ q1 k1=>?_;refine bQ.bind k1 (HV h1.1 (aj J aN<|aN.up s1 h1) (aj J aI<|aI.up s1 h4) (aj J aI<|aI.up s1 h5)<|aj J aI q1) λy2 u2 H2 s2 _ q2 k2=>?_;have jq:=s1.trans s2;refine bQ.bind k2 (Uo h1.1 (aj J aN<|aN.up jq h1) (aj J aI<|aI.up jq h2) (aj J aI<|aI.up jq h3) (aj J aI<|aI.up s2 q1)) λy3 u3 H3 s3 _ q3 k3=>?_;exact k3.by (uW h1.1 (aj J aN<|aN _ _ _ _ (jq.trans s3) h1) (aj J aI q3) (aj J aI<|aI.up s3 q2))
def RF(f:ak):bE gF:=λ_ v _=>v= .ref f
theorem kU:cY<|RF f:=λ_ _ _ _ _ h=>h
def DG(g:ag->ag->ag->ag->au ag)(p q:dR):au dR:=wD (g p.y q.z p.z q.y) (g p.z q.x p.x q.z)<|g p.x q.y p.y q.x
abbrev spCr(K:aq)(M CK fD:ak)(k:aB)(g:ag->ag->ag->ag->au ag):Sp:=cU M (aE (RK CK k)<|aE (RF fD) (aE (R3 K k)<|aE (R3 K k) cg)) (R3 K k) λx=>DG g x.2.2.1 x.2.2.2.1
theorem Ue{A:gk τ}{t:au τ}{f:τ->au α}(h0:NT C E (RF fD) (L ()) σ H te)(h:NA C E A t σ H ta):NT C E R (t.bind f) σ H<|OL fD (cU C A R f) E te ta:=λU Q s k=>by
 refine(h0.at_ s).go λv H2 s2 q=>⟨q,?_⟩;exact h H2 _ (s.trans s2) ⟨λH3 vs y s3 e q3=>⟨y,by rw[pj];exact q3,(k.at_<|s2.trans s3).eq (by rw[e];rfl)⟩,λH3 s3 e=>k.no H3 (s2.trans s3) (by rw[e];rfl)⟩
theorem BB(h:NT M E (RF fD) (L ()) σ H te)(h0:NT M E (RK CK k) (L ()) σ H t0)(h1:NT M E (RC K k) (L a) σ H t1)(h2:NT M E (RC K k) (L b) σ H t2)(h3:NT M E (RC K k) (L c) σ H t3)(h4:NT M E (RC K k) (L d) σ H t4):NT M E (RC K k) (g a b c d) σ H (OL fD (Ff K M CK k g) E te<|aU t0 (aU t1<|aU t2 (aU t3<|aU t4 b8))):=Ue (f:=λx=>g x.2.1 x.2.2.1 x.2.2.2.1 x.2.2.2.2.1) h<|aF aN h0 (aF aI h1<|aF aI h2 (aF aI h3<|aF aI h4 bR))
theorem VO:bF ["kind","difference","a","b"] ["kind","difference","a","b"] (ba<|aO 25):=fs
theorem UC(F:bh K "crossed" "crossed" (aO 25) f fd)(k:aB)(g:ag->ag->ag->ag->au ag)(OD:aD P w K mg base (aQ P w M) 5 fD fdD ["kind","p","q","r","s"]<|Ff K M CK k g)(kD:jx K (.ref fD)=ao)(bD:Binds K fdD ["kind","p","q","r","s"] []):aD P w K mg base (aQ P w M) 6 f fd ["kind","difference","a","b"]<|spCr K M CK fD k g:=by
 refine F.p4 VO λH Q E _ _ p3 p4 w1 w2 w3 w4 hr h1 h2 h3 h4 kk=>?_
 refine⟨_,aR<|bp (fV (dC (zI (O 1) OD hr kD bD aA (dC (O 0) (dC (aX<|O 2) (bG (aX<|O 3) (aX<|O 2) (aX<|O 3)))))
  (dC (zI (O 1) OD hr kD bD aA (dC (O 0) (dC (aX<|O 2) (bG (aX<|O 3) (aX<|O 2) (aX<|O 3)))))
  (bz<|zI (O 1) OD hr kD bD aA (dC (O 0) (dC (aX<|O 2) (bG (aX<|O 3) (aX<|O 2) (aX<|O 3)))))))),?_⟩
 have v0:NT M E (RK CK k) (L ()) [L w1,L w2,L w3,L w4] H<|aw 0:=aj J aN h1;have v1:NT M E (RF fD) (L ()) [L w1,L w2,L w3,L w4] H<|aw 1:=aj J kU h2;have v2:NT M E (R3 K k) (L p3) [L w1,L w2,L w3,L w4] H<|aw 2:=aj J bS h3;have v3:NT M E (R3 K k) (L p4) [L w1,L w2,L w3,L w4] H<|aw 3:=aj J bS h4;exact kk.by (qg (BB v1 v0 (jk v2) (jl v3) (jl v2)<|jk v3) (BB v1 v0 (jl v2) (jj v3) (jj v2)<|jl v3) (BB (g:=g) v1 v0 (jj v2) (jk v3) (jk v2)<|jj v3))
theorem VN:bF ["kind","a","b"] ["kind","a","b"] (ba<|aO 28):=fs
theorem sc_moment:bF ["kind","a","b"] ["kind","a","b"] (ba<|aO 29):=fs
theorem ok_cross(F:bh K "cross" "cross" (aO 28) f fd)(aJ:KM P w K mg base M CK)(G1:Gf K mg "crossed" (aO 25) f1 bZ ["kind","difference","a","b"])(G2:Gf K mg "plain_difference" (aO 26) f2 di ["kind","p","q","r","s"])(k:aB):aD P w K mg base (aQ P w M) 7 f fd ["kind","a","b"] (rh K M CK k<|lF k):=by
 have O2:=UG G2.F aJ k;have O1:=UC G1.F k _ O2 G2.F.kp G2.b;refine F.p3 VN λH Q E _ p2 p3 w1 w2 w3 hr h1 h2 h3 kk=>?_;refine⟨_,aR<|bp (cM O1 hr J G1.m G1.F.kp G1.b .nil aA<|dC (O 0) (bG (dH J G2.m (v:=.ref f2) J) (O 1)<|O 2)),?_⟩;exact kk.by<|cT (t:=L ((),(),p2,p3,())) (f:=λx=>DG (Ll k) x.2.2.1 x.2.2.2.1) (aF aN (aj J aN h1)<|aF kU (iP kU J) (aF bS (aj J bS h2)<|aF bS (aj J bS h3) bR))
theorem ok_moment(F:bh K "moment" "moment" (aO 29) f fd)(aJ:KM P w K mg base M CK)(G1:Gf K mg "crossed" (aO 25) f1 bZ ["kind","difference","a","b"])(G2:Gf K mg "mended_difference" (aO 27) f2 di ["kind","p","q","r","s"])(k:aB):aD P w K mg base (aQ P w M) 7 f fd ["kind","a","b"] (rh K M CK k<|r8 k):=by
 have O2:=ok_mended G2.F aJ k;have O1:=UC G1.F k _ O2 G2.F.kp G2.b;refine F.p3 sc_moment λH Q E _ p2 p3 w1 w2 w3 hr h1 h2 h3 kk=>?_;refine⟨_,aR<|bp (cM O1 hr J G1.m G1.F.kp G1.b .nil aA<|dC (O 0) (bG (dH J G2.m (v:=.ref f2) J) (O 1)<|O 2)),?_⟩;exact kk.by<|cT (t:=L ((),(),p2,p3,())) (f:=λx=>DG _ x.2.2.1 x.2.2.2.1) (aF aN (aj J aN h1)<|aF kU (iP kU J) (aF bS (aj J bS h2)<|aF bS (aj J bS h3) bR))
end
end BW
namespace BW
open PySem PySem.Spec PyProof.Rows L2
open Bw (bV cV bg cq)
inductive jf(K:aq)(k:aB)(H:Hp)(v:V)(p:ag×ag):Prop
 |mk:∀a x y,v= .ref a->cH K H a [x,y]->RN K k H x p.1->RN K k H y p.2->jf K k H v p
inductive R2(K:aq)(k:aB)(H:Hp)(v:V)(p:ag×ag):Prop
 |mk:∀a x y,v= .ref a->cH K H a [x,y]->RC K k H x p.1->RC K k H y p.2->R2 K k H v p
inductive wz(K:aq)(k:aB)(H:Hp)(v:V)(q:uk):Prop
 |mk:∀a w x y z,v= .ref a->cH K H a [w,x,y,z]->RN K k H w q.w->RN K k H x q.x->RN K k H y q.y->RN K k H z q.z->wz K k H v q
inductive R4(K:aq)(k:aB)(H:Hp)(v:V)(q:uk):Prop
 |mk:∀a w x y z,v= .ref a->cH K H a [w,x,y,z]->RC K k H w q.w->RC K k H x q.x->RC K k H y q.y->RC K k H z q.z->R4 K k H v q
inductive rV(K:aq)(k:aB)(H:Hp)(v:V)(q:uk):Prop
 |mk:∀a w x y z,v= .ref a->((SqL K H a [w,x,y,z]\/cH K H a [w,x,y,z]))->RC K k H w q.w->RC K k H x q.x->RC K k H y q.y->RC K k H z q.z->rV K k H v q
section
variable{K:aq}{k:aB}
theorem gI:cY<|jf K k:=λ_ _ _ _ s dm=>by obtain⟨a,x,y,e,h,h1,h2⟩:=dm;exact⟨a,x,y,e,s.tup h,eP.up s h1,eP.up s h2⟩
theorem h_:cY<|R2 K k:=λ_ _ _ _ s dW=>by obtain⟨a,x,y,e,h,h1,h2⟩:=dW;exact⟨a,x,y,e,s.tup h,aI.up s h1,aI.up s h2⟩
theorem zo:cY<|wz K k:=λ_ _ _ _ s gw=>by obtain⟨a,w,x,y,z,e,h,h1,h2,h3,h4⟩:=gw;exact⟨a,w,x,y,z,e,s.tup h,eP.up s h1,eP.up s h2,eP.up s h3,eP.up s h4⟩
theorem gA:cY<|R4 K k:=λ_ _ _ _ s ju=>by obtain⟨a,w,x,y,z,e,h,h1,h2,h3,h4⟩:=ju;exact⟨a,w,x,y,z,e,s.tup h,aI.up s h1,aI.up s h2,aI.up s h3,aI.up s h4⟩
theorem lS:cY<|rV K k:=λ_ _ _ _ s mX=>by obtain⟨a,w,x,y,z,e,h,h1,h2,h3,h4⟩:=mX;exact⟨a,w,x,y,z,e,h.imp (λq=>s.seq q) λq=>s.tup q,aI.up s h1,aI.up s h2,aI.up s h3,aI.up s h4⟩
theorem r4s_of(h:R4 K k H v q):rV K k H v q:=by
 obtain⟨a,w,x,y,z,e,h,r1,r2,r3,r4⟩:=h;exact⟨a,w,x,y,z,e,.inr h,r1,r2,r3,r4⟩
end
section
variable{K:aq}{M CK:ak}{E:XK}{σ:L2.St}{H:Hp}{te t1 t2 t3 t4:TE}{k:aB}
theorem HI(h:NT M E (jf K k) (L p) σ H te):NT M E (RN K k) (L p.1) σ H<|bY (dI K) te (tC<|.int 0):=kC 0 h λ_ _ vW=>by obtain⟨a,x,y,e,q,h1,_⟩:=vW;exact⟨a,_,x,e,q,J,h1⟩
theorem HJ(h:NT M E (jf K k) (L p) σ H te):NT M E (RN K k) (L p.2) σ H<|bY (dI K) te (tC<|.int 1):=kC 1 h λ_ _⟨a,x,y,e,q,_,h1⟩=>⟨a,_,y,e,q,J,h1⟩
theorem xq(h:NT M E (R2 K k) (L p) σ H te):NT M E (RC K k) (L p.1) σ H<|bY (dI K) te (tC<|.int 0):=kC 0 h λ_ _ y8_=>by obtain⟨a,x,y,e,q,h1,_⟩:=y8_;exact⟨a,_,x,e,q,J,h1⟩
theorem xr(h:NT M E (R2 K k) (L p) σ H te):NT M E (RC K k) (L p.2) σ H<|bY (dI K) te (tC<|.int 1):=kC 1 h λ_ _⟨a,x,y,e,q,_,h1⟩=>⟨a,_,y,e,q,J,h1⟩
theorem nt_4nw(h:NT M E (wz K k) (L q) σ H te):NT M E (RN K k) (L q.w) σ H<|bY (dI K) te (tC<|.int 0):=kC 0 h λ_ _ Pc=>by obtain⟨a,w,x,y,z,e,r,h1,h2,h3,h4⟩:=Pc;exact⟨a,_,w,e,r,J,h1⟩
theorem nt_4nx(h:NT M E (wz K k) (L q) σ H te):NT M E (RN K k) (L q.x) σ H<|bY (dI K) te (tC<|.int 1):=kC 1 h λ_ _⟨a,w,x,y,z,e,r,h1,h2,h3,h4⟩=>⟨a,_,x,e,r,J,h2⟩
theorem nt_4ny(h:NT M E (wz K k) (L q) σ H te):NT M E (RN K k) (L q.y) σ H<|bY (dI K) te (tC<|.int 2):=kC 2 h λ_ _⟨a,w,x,y,z,e,r,h1,h2,h3,h4⟩=>⟨a,_,y,e,r,J,h3⟩
theorem nt_4nz(h:NT M E (wz K k) (L q) σ H te):NT M E (RN K k) (L q.z) σ H<|bY (dI K) te (tC<|.int 3):=kC 3 h λ_ _⟨a,w,x,y,z,e,r,h1,h2,h3,h4⟩=>⟨a,_,z,e,r,J,h4⟩
theorem Ek(h:NT M E (R4 K k) (L q) σ H te):NT M E (RC K k) (L q.w) σ H<|bY (dI K) te (tC<|.int 0):=kC 0 h λ_ _ y18_=>by obtain⟨a,w,x,y,z,e,r,h1,h2,h3,h4⟩:=y18_;exact⟨a,_,w,e,r,J,h1⟩
theorem El(h:NT M E (R4 K k) (L q) σ H te):NT M E (RC K k) (L q.x) σ H<|bY (dI K) te (tC<|.int 1):=kC 1 h λ_ _⟨a,w,x,y,z,e,r,h1,h2,h3,h4⟩=>⟨a,_,x,e,r,J,h2⟩
theorem Em(h:NT M E (R4 K k) (L q) σ H te):NT M E (RC K k) (L q.y) σ H<|bY (dI K) te (tC<|.int 2):=kC 2 h λ_ _⟨a,w,x,y,z,e,r,h1,h2,h3,h4⟩=>⟨a,_,y,e,r,J,h3⟩
theorem En(h:NT M E (R4 K k) (L q) σ H te):NT M E (RC K k) (L q.z) σ H<|bY (dI K) te (tC<|.int 3):=kC 3 h λ_ _⟨a,w,x,y,z,e,r,h1,h2,h3,h4⟩=>⟨a,_,z,e,r,J,h4⟩
theorem xy{R':bE β}{x:α}(j:ag)(h0:NT M E R' (L y) σ H te)(hi:∀U v,R' U v y-> ∃p xs u,v= .ref p/\(SqL K U p xs\/cH K U p xs)/\xs[j]? =L u/\R U u x):NT M E R (L x) σ H<|bY (tF K) te (tC<|.int j):=λU Q s k=>by
 refine(h0.at_ s).go λv H2 s2 q=>?_;sleep 3;obtain⟨p,xs,u,e1,e2,e3,e4⟩:=hi H2 v q;sleep 4;rcases e2 with e2|e2
 ·exact .inl ⟨p,xs,j,u,e1,J,e2,uz e3,k.ok H2 u x s2 J e4⟩
 ·exact .inr<|.inl ⟨p,xs,j,u,e1,J,e2,uz e3,k.ok H2 u x s2 J e4⟩
theorem Uy(h:NT M E (rV K k) (L q) σ H te):NT M E (RC K k) (L q.w) σ H<|bY (tF K) te (tC<|.int 0):=xy 0 h λ_ _ y25_=>by obtain⟨a,w,x,y,z,e,r,h1,h2,h3,h4⟩:=y25_;exact⟨a,_,w,e,r,J,h1⟩
theorem Uz(h:NT M E (rV K k) (L q) σ H te):NT M E (RC K k) (L q.x) σ H<|bY (tF K) te (tC<|.int 1):=xy 1 h λ_ _⟨a,w,x,y,z,e,r,h1,h2,h3,h4⟩=>⟨a,_,x,e,r,J,h2⟩
theorem UA(h:NT M E (rV K k) (L q) σ H te):NT M E (RC K k) (L q.y) σ H<|bY (tF K) te (tC<|.int 2):=xy 2 h λ_ _⟨a,w,x,y,z,e,r,h1,h2,h3,h4⟩=>⟨a,_,y,e,r,J,h3⟩
theorem UB(h:NT M E (rV K k) (L q) σ H te):NT M E (RC K k) (L q.z) σ H<|bY (tF K) te (tC<|.int 3):=xy 3 h λ_ _⟨a,w,x,y,z,e,r,h1,h2,h3,h4⟩=>⟨a,_,z,e,r,J,h4⟩
theorem HY(h1:NT M E (RC K k) r σ H t1)(h2:NT M E (RC K k) s σ H t2):NT M E (R2 K k) (r.bind λa=>s.map λb=>(a,b)) σ H<|lq (aU t1<|aU t2 b8):=NT.eq (zE (f:=λx=>L (x.1,x.2.1)) (aF aI h1<|aF aI h2 bR)
  (λ_ _ _ y33_=>by obtain⟨v,r,e,_,v2,r2,e2,_,e4⟩:=y33_;subst e e2 e4;show 2<=bI;decide)
  (λ_ _ y p y32_ hp=>by obtain⟨v,r,e,q1,v2,r2,e2,q2,e4⟩:=y32_;subst e e2 e4;exact⟨_,J,p,v,v2,J,cH.of hp,q1,q2⟩)
  (mH aI<|mH aI zt))<|by cases r<;>cases s<;>rfl
theorem Uu(h1:NT M E (RN K k) (L a) σ H t1)(h2:NT M E (RN K k) (L b) σ H t2):NT M E (jf K k) (L (a,b)) σ H<|lq (aU t1<|aU t2 b8):=zE (f:=λx=>L (x.1,x.2.1)) (aF eP h1<|aF eP h2 bR)
  (λ_ _ _ y35_=>by obtain⟨v,r,e,_,v2,r2,e2,_,e4⟩:=y35_;subst e e2 e4;show 2<=bI;decide)
  (λ_ _ y p y34_ hp=>by obtain⟨v,r,e,q1,v2,r2,e2,q2,e4⟩:=y34_;subst e e2 e4;exact⟨_,J,p,v,v2,J,cH.of hp,q1,q2⟩)
  (mH eP<|mH eP zt)
theorem MJ(h1:NT M E (RC K k) r σ H t1)(h2:NT M E (RC K k) s σ H t2)(h3:NT M E (RC K k) t σ H t3)(h4:NT M E (RC K k) u σ H t4):NT M E (R4 K k) (r.bind λw=>s.bind λx=>t.bind λy=>u.map λz=>⟨w,x,y,z⟩) σ H<|lq (aU t1<|aU t2 (aU t3<|aU t4 b8)):=NT.eq (zE (f:=λx=>L ⟨x.1,x.2.1,x.2.2.1,x.2.2.2.1⟩) (aF aI h1<|aF aI h2 (aF aI h3<|aF aI h4 bR))
  (λ_ _ _ y37_=>by obtain⟨v,r,e,_,v2,r2,e2,_,v3,r3,e3,_,v4,r4,e4,_,e5⟩:=y37_;subst e e2 e3 e4 e5;show 4<=bI;decide)
  (λ_ _ y p y36_ hp=>by obtain⟨v,r,e,q1,v2,r2,e2,q2,v3,r3,e3,q3,v4,r4,e4,q4,e5⟩:=y36_;subst e e2 e3 e4 e5;exact⟨_,J,p,v,v2,v3,v4,J,cH.of hp,q1,q2,q3,q4⟩)
  (mH aI<|mH aI (mH aI<|mH aI zt)))<|by cases r<;>cases s<;>cases t<;>cases u<;>rfl
end
abbrev N1(K:aq)(M CK:ak)(k:aB)(g:ag×ag->ag×ag->au (ag×ag)):Sp:=cU M (aE (RK CK k) (aE (jf K k)<|aE (R2 K k) cg)) (R2 K k) λx=>g x.2.1 x.2.2.1
section
variable{P:cO}{w:World}{K:aq}{mg:ax->au aH}{base:b9}{M CK:ak}
theorem NK:bF ["kind","p","q","u","v"] ["kind","p","q"] (ba<|aO 33):=fs
theorem NL:bF ["kind","p","q","u","v"] ["kind","p","q"] (ba<|aO 34):=fs
theorem ok_cx{f:ak}{fd:c7}(F:bh K "complex_product" "complex_product" (aO 33) f fd)(aJ:KM P w K mg base M CK)(k:aB):aD P w K mg base (aQ P w M) 5 f fd ["kind","p","q"] (N1 K M CK k<|F5 k):=by
 obtain⟨f1,bZ,M1,b1,O1⟩:=aJ.mul;obtain⟨f2,di,M2,b2,O2⟩:=aJ.ms;obtain⟨f3,fv,M3,b3,O3⟩:=aJ.ma;refine F.p3 NK λH Q E _ p q w1 w2 w3 hr h1 h2 h3 kk=>?_
 refine⟨_,aG (bC 3 NK.nd<|bW (O 0) aJ.T.cl M1 (O1 k) hr b1 .nil aA (bK (aX<|O 1) (aX<|O 2)))
  (aG (bC 4 NK.nd<|bW (O 0) aJ.T.cl M1 (O1 k) hr b1 .nil aA (bK (aX<|O 1) (aX<|O 2)))
  (aR (bp (fV (dC (bW (O 0) aJ.T.cl M2 (O2 k) hr b2 .nil aA (bG (aX<|O 1) (aX<|O 2)<|O 3))
    (bz<|bW (O 0) aJ.T.cl M3 (O3 k) hr b3 .nil aA (bG (aX<|O 1) (aX<|O 2)<|O 4))))))),?_⟩
 have wk:∀H v y,RC K k H v y->RN K k H v y:=λ_ _ _ z=>dS h1.1 z;refine bQ.bind (rb:=iE k p.2 q.2) kk (qf (g:=iE k) uV (aj J aN h1) (HJ<|aj J gI h2)<|(xr<|aj J h_ h3).cZ wk) λy1 u1 U s1 _ q1 k1=>?_;refine bQ.bind (rb:=iE k p.2 q.1) k1 (qf (g:=iE k) uV (aj J aN<|aN.up s1 h1) (HJ (aj J gI<|gI.up s1 h2))<|(xq (aj J h_<|h_.up s1 h3)).cZ wk) λy2 u2 H2 s2 _ q2 k2=>?_;have v0:NT M E (RK CK k) (L ()) [L w1,L w2,L w3,L u1,L u2] H2<|aw 0:=aj J aN<|aN _ _ _ _ (s1.trans s2) h1;have v1:NT M E (jf K k) (L p) [L w1,L w2,L w3,L u1,L u2] H2<|aw 1:=aj J gI<|gI _ _ _ _ (s1.trans s2) h2;have v2:NT M E (R2 K k) (L q) [L w1,L w2,L w3,L u1,L u2] H2<|aw 2:=aj J h_<|h_ _ _ _ _ (s1.trans s2) h3;exact k2.by (HY (r:=wF k p.1 q.1 y1) (s:=uo k p.1 q.2 y2) (uZ (g:=wF k) Mx v0 (HI v1) ((xq v2).cZ wk)<|(aj J aI<|aI.up s2 q1).cZ wk) (uZ (g:=uo k) HD v0 (HI v1) ((xr v2).cZ wk)<|(aj J aI q2).cZ wk))
theorem ok_cy{f:ak}{fd:c7}(F:bh K "mirror_product" "mirror_product" (aO 34) f fd)(aJ:KM P w K mg base M CK)(k:aB):aD P w K mg base (aQ P w M) 5 f fd ["kind","p","q"] (N1 K M CK k<|F6 k):=by
 obtain⟨f1,bZ,M1,b1,O1⟩:=aJ.mul;obtain⟨f2,di,M2,b2,O2⟩:=aJ.ms;obtain⟨f3,fv,M3,b3,O3⟩:=aJ.ma;refine F.p3 NL λH Q E _ p q w1 w2 w3 hr h1 h2 h3 kk=>?_
 refine⟨_,aG (bC 3 NL.nd<|bW (O 0) aJ.T.cl M1 (O1 k) hr b1 .nil aA (bK (aX<|O 1) (aX<|O 2)))
  (aG (bC 4 NL.nd<|bW (O 0) aJ.T.cl M1 (O1 k) hr b1 .nil aA (bK (aX<|O 1) (aX<|O 2)))
  (aR (bp (fV (dC (bW (O 0) aJ.T.cl M3 (O3 k) hr b3 .nil aA (bG (aX<|O 1) (aX<|O 2)<|O 3))
    (bz<|bW (O 0) aJ.T.cl M2 (O2 k) hr b2 .nil aA (bG (aX<|O 1) (aX<|O 2)<|O 4))))))),?_⟩
 have wk:∀H v y,RC K k H v y->RN K k H v y:=λ_ _ _ z=>dS h1.1 z;refine bQ.bind (rb:=iE k p.2 q.2) kk (qf (g:=iE k) uV (aj J aN h1) (HJ<|aj J gI h2)<|(xr<|aj J h_ h3).cZ wk) λy1 u1 U s1 _ q1 k1=>?_;refine bQ.bind (rb:=iE k p.1 q.2) k1 (qf (g:=iE k) uV (aj J aN<|aN.up s1 h1) (HI (aj J gI<|gI.up s1 h2))<|(xr (aj J h_<|h_.up s1 h3)).cZ wk) λy2 u2 H2 s2 _ q2 k2=>?_;have v0:NT M E (RK CK k) (L ()) [L w1,L w2,L w3,L u1,L u2] H2<|aw 0:=aj J aN<|aN _ _ _ _ (s1.trans s2) h1;have v1:NT M E (jf K k) (L p) [L w1,L w2,L w3,L u1,L u2] H2<|aw 1:=aj J gI<|gI _ _ _ _ (s1.trans s2) h2;have v2:NT M E (R2 K k) (L q) [L w1,L w2,L w3,L u1,L u2] H2<|aw 2:=aj J h_<|h_ _ _ _ _ (s1.trans s2) h3;exact k2.by (HY (r:=uo k p.1 q.1 y1) (s:=wF k p.2 q.1 y2) (uZ (g:=uo k) HD v0 (HI v1) ((xq v2).cZ wk)<|(aj J aI<|aI.up s2 q1).cZ wk) (uZ (g:=wF k) Mx v0 (HJ v1) ((xq v2).cZ wk)<|(aj J aI q2).cZ wk))
end
end BW
namespace BW
open PySem PySem.Spec PyProof.Rows L2
open Bw (bV cV bg cq gC jW)
theorem j3{R:bE α}(h:NT C E R (L y) σ H te)(hq:∀v U,az H U->R U v y->u D (σ.set i<|L v) U):oY (j7 te<|eI i) u D σ H:=h.go hq
section
variable(P:cO)(w:World)(K:aq)(mg:ax->au aH)(base:b9)(M CK:ak)
structure VM:Prop where
 aJ:KM P w K mg base M CK
 add:cX P w K mg base M 7 "added" ["kind","a","b"] λk=>rh K M CK k (iZ k)
 sub:cX P w K mg base M 7 "taken_off" ["kind","a","b"] λk=>rh K M CK k (xj k)
 each:cX P w K mg base M 7 "each_times" ["kind","a","b"] λk=>rh K M CK k (yz k)
 NP:cX P w K mg base M 7 "scaled" ["kind","c","d"] λk=>N0 K M CK k (wH k)
 divided:cX P w K mg base M 7 "divided" ["kind","d","c"] λk=>N2 K M CK k (Qq k)
 along:cX P w K mg base M 7 "along" ["kind","p","c","d"] λk=>Fe K M CK k (λp c d=>ja k c d p)
 against:cX P w K mg base M 7 "against" ["kind","p","c","d"] λk=>Fe K M CK k (λp c d=>yx k c d p)
 dot:cX P w K mg base M 7 "dot" ["kind","a","b"] λk=>N3 K M CK k (mr k)
 cross:cX P w K mg base M 7 "cross" ["kind","a","b"] λk=>rh K M CK k (lF k)
 moment:cX P w K mg base M 7 "moment" ["kind","a","b"] λk=>rh K M CK k<|r8 k
end
section
variable{K:aq}{M CK:ak}{E:XK}{σ:L2.St}{H:Hp}{t0 t1 t2 t3:TE}{k:aB}
theorem kX(h0:NT M E (RK CK k) (L ()) σ H t0)(h1:NT M E (R3 K k) r σ H t1)(h2:NT M E (R3 K k) s σ H t2):NT M E (R3 K k) (r.bind λa=>s.bind λb=>g a b) σ H (d_ (rh K M CK k g) [] E<|aU t0 (aU t1<|aU t2 b8)):=NT.eq (cT<|aF aN h0 (aF bS h1<|aF bS h2 bR))<|by cases r<;>cases s<;>rfl
theorem zA(h0:NT M E (RK CK k) (L ()) σ H t0)(h1:NT M E (R3 K k) r σ H t1)(h2:NT M E (RC K k) c σ H t2)(h3:NT M E (R3 K k) s σ H t3):NT M E (R3 K k) (r.bind λa=>c.bind λx=>s.bind λb=>g a x b) σ H<|d_ (Fe K M CK k g) [] E (aU t0<|aU t1 (aU t2<|aU t3 b8)):=NT.eq (cT (aF aN h0<|aF bS h1 (aF aI h2<|aF bS h3 bR)))<|by cases r<;>cases c<;>cases s<;>rfl
theorem HP(h0:NT M E (RK CK k) (L ()) σ H t0)(h1:NT M E (jf K k) (L a) σ H t1)(h2:NT M E (R2 K k) (L b) σ H t2):NT M E (R2 K k) (g a b) σ H (d_ (N1 K M CK k g) [] E<|aU t0 (aU t1<|aU t2 b8)):=cT (f:=λx=>g x.2.1 x.2.2.1)<|aF aN h0 (aF gI h1<|aF h_ h2 bR)
end
section
variable{P:cO}{w:World}{K:aq}{mg:ax->au aH}{base:b9}{M CK:ak}
abbrev Wq(K:aq)(M CK:ak)(k:aB):Sp:=cU M (aE (RK CK k) (aE (wz K k)<|aE (R4 K k) cg)) (R4 K k) λx=>C8 k x.2.1 x.2.2.1
theorem vJ:bF ["kind","s","t","a","b","c","d","ac","bd","ad","bc"] ["kind","s","t"] (ba<|aO 35):=fs
theorem ok_tp{f f3 f4:ak}{fd fv ig:c7}(F:bh K "turn_product" "turn_product" (aO 35) f fd)(aJ:KM P w K mg base M CK)(G3:Gf K mg "complex_product" (aO 33) f3 fv ["kind","p","q"])(G4:Gf K mg "mirror_product" (aO 34) f4 ig ["kind","p","q"])(k:aB):aD P w K mg base (aQ P w M) 6 f fd ["kind","s","t"]<|Wq K M CK k:=by
 obtain⟨f1,bZ,M1,b1,O1'⟩:=aJ.sub;obtain⟨f2,di,M2,b2,O2'⟩:=aJ.add;have O1:=(O1' k).aV (k:=5) dc;have O2:=(O2' k).aV (k:=5) dc;have O3:=ok_cx (P:=P) (w:=w) (base:=base) G3.F aJ k;have O4:=ok_cy (P:=P) (w:=w) (base:=base) G4.F aJ k;refine F.p3 vJ λH Q E _ p q w1 w2 w3 hr h1 h2 h3 kk=>?_
 refine⟨_,aG (bC 3 vJ.nd<|fV (bK (aX<|O 1) (aX<|O 1)))
  (aG (bC 4 vJ.nd<|fV (bK (aX<|O 1) (aX<|O 1)))
  (aG (bC 5 vJ.nd<|fV (bK (aX<|O 2) (aX<|O 2)))
  (aG (bC 6 vJ.nd<|fV (bK (aX<|O 2) (aX<|O 2)))
  (aG (bC 7 vJ.nd<|cM O3 hr J G3.m G3.F.kp G3.b .nil aA (bG (O 0) (O 3)<|O 5))
  (aG (bC 8 vJ.nd<|cM O4 hr J G4.m G4.F.kp G4.b .nil aA (bG (O 0) (O 4)<|O 6))
  (aG (bC 9 vJ.nd<|cM O3 hr J G3.m G3.F.kp G3.b .nil aA (bG (O 0) (O 3)<|O 6))
  (aG (bC 10 vJ.nd<|cM O4 hr J G4.m G4.F.kp G4.b .nil aA (bG (O 0) (O 4)<|O 5))
  (aR (bp (fV (dC (bW (O 0) aJ.T.cl M1 O1 hr b1 .nil aA (bK (aX<|O 7) (aX<|O 8)))
    (dC (bW (O 0) aJ.T.cl M1 O1 hr b1 .nil aA (bK (aX<|O 7) (aX<|O 8)))
    (dC (bW (O 0) aJ.T.cl M2 O2 hr b2 .nil aA (bK (aX<|O 9) (aX<|O 10)))
    (bz<|bW (O 0) aJ.T.cl M2 O2 hr b2 .nil aA (bK (aX<|O 9) (aX<|O 10)))))))))))))))),?_⟩
 have n1:NT M E (jf K k) (L (p.w,p.x)) [L w1,L w2,L w3,ah,ah,ah,ah,ah,ah,ah,ah] H (lq<|aU (bY (dI K) (aw 1) (tC<|.int 0))<|aU (bY (dI K) (aw 1) (tC<|.int 1)) b8):=Uu (nt_4nw<|aj J zo h2) (nt_4nx<|aj J zo h2);refine j3 n1 λu3 H3 s3 q3=>?_;have n2:NT M E (jf K k) (L (p.y,p.z)) [L w1,L w2,L w3,L u3,ah,ah,ah,ah,ah,ah,ah] H3 (lq<|aU (bY (dI K) (aw 1) (tC<|.int 2))<|aU (bY (dI K) (aw 1) (tC<|.int 3)) b8):=Uu (nt_4ny (aj J zo<|zo.up s3 h2))<|nt_4nz (aj J zo<|zo.up s3 h2);refine j3 n2 λu4 H4 s4 q4=>?_;have Lr:=gA _ _ _ _ (s3.trans s4) h3;have n3:NT M E (R2 K k) (L (q.w,q.x)) [L w1,L w2,L w3,L u3,L u4,ah,ah,ah,ah,ah,ah] H4 (lq<|aU (bY (dI K) (aw 2) (tC<|.int 0))<|aU (bY (dI K) (aw 2) (tC<|.int 1)) b8):=HY (r:=L q.w) (s:=L q.x) (Ek<|aj J gA Lr) (El<|aj J gA Lr);refine j3 n3 λu5 H5 s5 q5=>?_;have Se:=gA.up s5 Lr;have n4:NT M E (R2 K k) (L (q.y,q.z)) [L w1,L w2,L w3,L u3,L u4,L u5,ah,ah,ah,ah,ah] H5 (lq<|aU (bY (dI K) (aw 2) (tC<|.int 2))<|aU (bY (dI K) (aw 2) (tC<|.int 3)) b8):=HY (r:=L q.y) (s:=L q.z) (Em<|aj J gA Se) (En<|aj J gA Se);refine j3 n4 λu6 H6 s6 q6=>?_;have Vn:=((s3.trans s4).trans s5).trans s6;have k6:=aN.up Vn h1;have a6:=gI _ _ _ _ ((s4.trans s5).trans s6) q3;have b6:=gI _ _ _ _ (s5.trans s6) q4;have c6:=h_.up s6 q5;refine bQ.bind (rb:=F5 k (p.w,p.x) (q.w,q.x)) (kk.at_ Vn) (HP (g:=F5 k) (σ:=[L w1,L w2,L w3,L u3,L u4,L u5,L u6,ah,ah,ah,ah]) (aj J aN k6) (aj J gI a6)<|aj J h_ c6) λy7 u7 H7 s7 _ q7 k7=>?_;refine bQ.bind (rb:=F6 k (p.y,p.z) (q.y,q.z)) k7 (HP (g:=F6 k) (σ:=[L w1,L w2,L w3,L u3,L u4,L u5,L u6,L u7,ah,ah,ah]) (aj J aN<|aN.up s7 k6) (aj J gI<|gI.up s7 b6) (aj J h_<|h_.up s7 q6)) λy8 u8 H8 s8 _ q8 k8=>?_;have Iz:=s7.trans s8;refine bQ.bind (rb:=F5 k (p.w,p.x) (q.y,q.z)) k8 (HP (g:=F5 k) (σ:=[L w1,L w2,L w3,L u3,L u4,L u5,L u6,L u7,L u8,ah,ah]) (aj J aN<|aN.up Iz k6) (aj J gI<|gI.up Iz a6) (aj J h_<|h_.up Iz q6)) λy9 u9 H9 s9 _ q9 k9=>?_;have IA:=Iz.trans s9;refine bQ.bind (rb:=F6 k (p.y,p.z) (q.w,q.x)) k9 (HP (g:=F6 k) (σ:=[L w1,L w2,L w3,L u3,L u4,L u5,L u6,L u7,L u8,L u9,ah]) (aj J aN<|aN.up IA k6) (aj J gI<|gI.up IA b6) (aj J h_<|h_.up IA c6)) λPb Fo yg BQ _ q10 k10=>?_;have v0:NT M E (RK CK k) (L ()) [L w1,L w2,L w3,L u3,L u4,L u5,L u6,L u7,L u8,L u9,L Fo] yg<|aw 0:=aj J aN<|aN _ _ _ _ (IA.trans BQ) k6;have v7:NT M E (R2 K k) (L y7) [L w1,L w2,L w3,L u3,L u4,L u5,L u6,L u7,L u8,L u9,L Fo] yg<|aw 7:=aj J h_<|h_ _ _ _ _ ((s8.trans s9).trans BQ) q7;have v8:NT M E (R2 K k) (L y8) [L w1,L w2,L w3,L u3,L u4,L u5,L u6,L u7,L u8,L u9,L Fo] yg<|aw 8:=aj J h_<|h_ _ _ _ _ (s9.trans BQ) q8;have v9:NT M E (R2 K k) (L y9) [L w1,L w2,L w3,L u3,L u4,L u5,L u6,L u7,L u8,L u9,L Fo] yg<|aw 9:=aj J h_<|h_.up BQ q9;have W9:NT M E (R2 K k) (L Pb) [L w1,L w2,L w3,L u3,L u4,L u5,L u6,L u7,L u8,L u9,L Fo] yg<|aw 10:=aj J h_ q10;exact k10.by (MJ (r:=C7 k y7.1 y8.1) (s:=C7 k y7.2 y8.2) (t:=eY k y9.1 Pb.1) (u:=eY k y9.2 Pb.2) (BD h1.1 v0 (xq v7)<|xq v8) (BD h1.1 v0 (xr v7)<|xr v8) (uW h1.1 v0 (xq v9)<|xq W9) (uW h1.1 v0 (xr v9)<|xr W9))
abbrev Jl(K:aq)(M CK:ak)(k:aB):Sp:=cU M (aE (RK CK k)<|aE (rV K k) cg) (RC K k) λx=>yC k x.2.1
theorem IU:bF ["kind","t","s"] ["kind","t"] (ba<|aO 36):=fs
theorem UL{f:ak}{fd:c7}(F:bh K "turn_square" "turn_square" (aO 36) f fd)(aJ:KM P w K mg base M CK)(k:aB):aD P w K mg base (aQ P w M) 5 f fd ["kind","t"]<|Jl K M CK k:=by
 obtain⟨f1,bZ,M1,b1,O1⟩:=aJ.mul;obtain⟨f2,di,M2,b2,O2⟩:=aJ.ma;refine F.p2 IU λH Q E _ q w1 w2 hr h1 h2 kk=>?_
 refine⟨_,aG (bC 2 IU.nd<|bW (O 0) aJ.T.cl M1 (O1 k) hr b1 .nil aA (bK (d4 ji (O 1) a_ λ_ _=>J)<|d4 ji (O 1) a_ λ_ _=>J))
  (aG (bC 2 IU.nd<|bW (O 0) aJ.T.cl M2 (O2 k) hr b2 .nil aA (bG (d4 ji (O 1) a_ λ_ _=>J) (d4 ji (O 1) a_ λ_ _=>J)<|O 2))
  (aG (bC 2 IU.nd<|bW (O 0) aJ.T.cl M2 (O2 k) hr b2 .nil aA (bG (d4 ji (O 1) a_ λ_ _=>J) (d4 ji (O 1) a_ λ_ _=>J)<|O 2))
  (aR (bp<|bW (O 0) aJ.T.cl M2 (O2 k) hr b2 .nil aA (bG (d4 ji (O 1) a_ λ_ _=>J) (d4 ji (O 1) a_ λ_ _=>J)<|O 2))))),?_⟩
 refine bQ.bind kk (qX h1.1 (aj J aN h1) (Uy<|aj J lS h2) (Uy<|aj J lS h2)) λy1 u1 U s1 _ q1 k1=>?_;have t1:=lS.up s1 h2;refine bQ.bind k1 (qW h1.1 (aj J aN<|aN.up s1 h1) (Uz<|aj J lS t1) (Uz<|aj J lS t1)<|aj J aI q1) λy2 u2 H2 s2 _ q2 k2=>?_;have t2:=lS.up s2 t1;refine bQ.bind k2 (qW h1.1 (aj J aN<|aN _ _ _ _ (s1.trans s2) h1) (UA<|aj J lS t2) (UA<|aj J lS t2)<|aj J aI q2) λy3 u3 H3 s3 _ q3 k3=>?_;have t3:=lS.up s3 t2;exact k3.by (qW h1.1 (aj J aN<|aN _ _ _ _ ((s1.trans s2).trans s3) h1) (UB<|aj J lS t3) (UB<|aj J lS t3)<|aj J aI q3)
end
end BW
namespace BW
open PySem PySem.Spec PyProof.Rows L2
open Bw (bV cV bg cq gC jW)
theorem seq_or(h1:NT C E RB (L a) σ H ta)(h2:NT C E RB (L b) σ H tb)(JM:(a=ao\/b=ao)-> ∀U,az H U->t1 {D with nx:=u D} σ U)(no:¬(a=ao\/b=ao)-> ∀U,az H U->u D σ U):oY (z8 (OR (tB ta)<|tB tb) t1 Jw) u D σ H:=by
 refine h1.go (Q':=λx U=>Cg x U λc U=>if c=ao then(if ao=ao then t1 {D with nx:=u D} σ U else u D σ U) else tb σ U λy H2=>Cg y H2 λe H2=>if e=ao then t1 {D with nx:=u D} σ H2 else u D σ H2) λv U s1 q1=>⟨a,q1,d6 (λc=>?_) λc=>?_⟩
 ·refine jJ ?_
  exact JM (.inl c) U s1
 ·refine(h2.at_ s1).go λy H2 s2 q2=>⟨b,q2,d6 (λe=>?_) λe=>?_⟩
  ·exact JM (.inr e) H2<|s1.trans s2
  ·exact no (λz=>z.elim c e) H2<|s1.trans s2
section
variable{P:cO}{w:World}{K:aq}{mg:ax->au aH}{base:b9}{M CK:ak}
abbrev oV(K:aq)(M:ak)(k:aB):Sp:=cU M (aE (RN K k)<|aE (RN K k) cg) RB λx=>L<|jT k x.1 x.2.1
theorem xB(F:bh K "is_below" "is_below" q_ f fd)(k:aB):aD P w K mg base ib 1 f fd ["x","y"]<|oV K M k:=by
 refine(ok_below (M:=M) F).imp λvs H Q E h=>?_;obtain⟨⟨a,b,_⟩,ar0,kk⟩:=h;refine ar0.c2 λv2 v3 uM hh1=>?_;obtain⟨p,hp,rp⟩:=uM;obtain⟨q,hq,rq⟩:=hh1;refine⟨(p,q,()),⟨v2,_,J,⟨hp,zY rp⟩,v3,_,J,⟨hq,zY rq⟩,J⟩,kk.eq ?_⟩;rw[Bw.rep_below rp rq]
theorem tj{E:XK}{σ:L2.St}{H:Hp}{t1 t2:TE}{a b:ag}(h1:NT M E (RN K k) (L a) σ H t1)(h2:NT M E (RN K k) (L b) σ H t2):NT M E RB (L<|jT k a b) σ H<|d_ (oV K M k) [] E (aU t1<|aU t2 b8):=cT (f:=λx=>L<|jT k x.1 x.2.1) (aF eP h1<|aF eP h2 bR)
structure KC(K:aq)(mg:ax->au aH):Prop where
 qu:∃a,mg "QUARTER"=L (.ref a)/\ ∀H,cH K H a [.int 1,.int (-2)]
 gs:∃a,mg "GREATEST_SQUARE"=L (.ref a)/\ ∀H,cH K H a [.int 1,.int 64]
abbrev Jc(K:aq)(M CK:ak)(k:aB)(g:uk->au uk):Sp:=cU M (aE (RK CK k)<|aE (R4 K k) cg) (R4 K k) λx=>g x.2.1
theorem NO:bF ["kind","t","square","length"] ["kind","t"] (ba<|aO 37):=fs
theorem ok_mol{f f3 f4:ak}{fd fv ig:c7}(F:bh K "made_one_long" "made_one_long" (aO 37) f fd)(aJ:KM P w K mg base M CK)(X:KC K mg)(G3:Gf K mg "turn_square" (aO 36) f3 fv ["kind","t"])(G4:Gf K mg "is_below" q_ f4 ig ["x","y"])(k:aB):aD P w K mg base (aQ P w M) 6 f fd ["kind","t"] (Jc K M CK k<|yD k):=by
 obtain⟨f1,bZ,M1,b1,O1'⟩:=aJ.root;obtain⟨f2,di,M2,b2,O2'⟩:=aJ.div;have O1:=(O1' k).aV (k:=5) dc;have O2:=(O2' k).aV (k:=5) dc;have O3:=UL (P:=P) (w:=w) (base:=base) G3.F aJ k;have O4:aD P w K mg base (aQ P w M) 5 f4 ig ["x","y"]<|oV K M k:=(xB G4.F k).gz.aV dc;obtain⟨qa,qm,qq⟩:=X.qu;obtain⟨ga,gm,gq⟩:=X.gs;refine F.p2 NO λH Q E _ q w1 w2 hr h1 h2 kk=>?_
 refine⟨_,aG (bC 2 NO.nd<|cM O3 hr J G3.m G3.F.kp G3.b .nil aA (bK (O 0)<|O 1))
  (aG (dU (PW.pt (qr (i7<|cM O4 hr J G4.m G4.F.kp G4.b .nil aA (bK (O 2)<|dH J qm (v:=.ref qa) J))<|vA (i7<|cM O4 hr J G4.m G4.F.kp G4.b .nil aA (bK (dH J gm (v:=.ref ga) J)<|O 2)))) (aR<|Il J aJ.T.sD Iq J aJ.T.sX) d7)
  (aG (bC 3 NO.nd<|bW (O 0) aJ.T.cl M1 O1 hr b1 .nil aA (bz<|O 2))
  (aR (bp (fV (dC (bW (O 0) aJ.T.cl M2 O2 hr b2 .nil aA<|bK (aX<|O 1)<|O 3)
    (dC (bW (O 0) aJ.T.cl M2 O2 hr b2 .nil aA<|bK (aX<|O 1)<|O 3)
    (dC (bW (O 0) aJ.T.cl M2 O2 hr b2 .nil aA<|bK (aX<|O 1)<|O 3)
    (bz (bW (O 0) aJ.T.cl M2 O2 hr b2 .nil aA<|bK (aX<|O 1)<|O 3)))))))))),?_⟩
 have u_:NT M E (RC K k) (yC k q) [L w1,L w2,ah,ah] H<|d_ (Jl K M CK k) [] E (aU (aw 0)<|aU (aw 1) b8):=cT (t:=L ((),q,())) (f:=λx=>yC k x.2.1) (aF aN (aj J aN h1)<|aF lS (aj J lS<|r4s_of h2) bR);refine bQ.bind (rb:=yC k q) kk u_ λn u1 U s1 _ q1 k1=>?_;have vn:NT M E (RN K k) (L n) [L w1,L w2,L u1,ah] U<|aw 2:=aj J eP<|dS h1.1 q1;have vq:NT M E (RN K k) (L<|oP k (-2)) [L w1,L w2,L u1,ah] U (tC<|.ref qa):=iP eP ⟨_,⟨qa,J,qq U⟩,Bw.Vd h1.1⟩;have vg:NT M E (RN K k) (L<|oP k 64) [L w1,L w2,L u1,ah] U (tC<|.ref ga):=iP eP ⟨_,⟨ga,J,gq U⟩,Bw.rep_64 h1.1⟩;dsimp only[eI];refine seq_or (σ:=[L w1,L w2,L u1,ah]) (tj vn vq) (tj vg vn) (λc H2 s2=>?_) λc H2 s2=>?_
 ·exact k1.no H2 s2<|aK c
 have k2:=(k1.at_ s2).eq<|ay c;refine bQ.bind (rb:=wG k n) k2 (nt_root (r:=L n) (σ:=[L w1,L w2,L u1,ah]) (aj J aN<|aN _ _ _ _ (s1.trans s2) h1) (aj J aI<|aI.up s2 q1)) λr u3 H3 s3 _ q3 k3=>?_;have v0:NT M E (RK CK k) (L ()) [L w1,L w2,L u1,L u3] H3<|aw 0:=aj J aN<|aN _ _ _ _ ((s1.trans s2).trans s3) h1;have v1:NT M E (R4 K k) (L q) [L w1,L w2,L u1,L u3] H3<|aw 1:=aj J gA<|gA _ _ _ _ ((s1.trans s2).trans s3) h2;have v3:NT M E (RC K k) (L r) [L w1,L w2,L u1,L u3] H3<|aw 3:=aj J aI q3;exact k3.by (MJ (r:=yy k q.w r) (s:=yy k q.x r) (t:=yy k q.y r) (u:=yy k q.z r) (zy v0 (Ek v1) v3) (zy v0 (El v1) v3) (zy v0 (Em v1) v3)<|zy v0 (En v1) v3)
abbrev N6(K:aq)(M CK:ak)(k:aB)(g:uk->dR->au dR):Sp:=cU M (aE (RK CK k) (aE (R4 K k)<|aE (R3 K k) cg)) (R3 K k) λx=>g x.2.1 x.2.2.1
theorem qB:bF ["kind","t","r","u","c","twice","d","s"] ["kind","t","r"] (ba<|aO 38):=fs
theorem MW{f:ak}{fd:c7}(F:bh K "turned" "turned" (aO 38) f fd)(W:VM P w K mg base M CK)(k:aB):aD P w K mg base (aQ P w M) 8 f fd ["kind","t","r"] (N6 K M CK k<|pC k):=by
 obtain⟨f1,bZ,m1,k1,b1,O1⟩:=W.cross;obtain⟨f2,di,m2,k2,b2,O2⟩:=W.add;obtain⟨f3,fv,m3,k3,b3,O3⟩:=W.along;refine F.p3 qB λH Q E _ q r w1 w2 w3 hr h1 h2 h3 kk=>?_
 refine⟨_,aG (bC 3 qB.nd (fV (bG (aX<|O 1) (aX<|O 1) (aX<|O 1))))
  (aG (bC 4 qB.nd<|cM (O1 k) hr J m1 k1 b1 .nil aA (bG (O 0) (O 3)<|O 2))
  (aG (bC 5 qB.nd<|cM (O2 k) hr J m2 k2 b2 .nil aA (bG (O 0) (O 4)<|O 4))
  (aG (bC 6 qB.nd<|cM (O1 k) hr J m1 k1 b1 .nil aA (bG (O 0) (O 3)<|O 5))
  (aG (bC 7 qB.nd (cM (O3 k) hr J m3 k3 b3 .nil aA (dC (O 0)<|bG (O 2) (aX<|O 1)<|O 5)))
  (aR (bp<|cM (O2 k) hr J m2 k2 b2 .nil aA (bG (O 0) (O 7)<|O 6))))))),?_⟩
 have n1:NT M E (R3 K k) (L q.axis) [L w1,L w2,L w3,ah,ah,ah,ah,ah] H (lq (aU (bY (dI K) (aw 1) (tC<|.int 1))<|aU (bY (dI K) (aw 1) (tC<|.int 2))<|aU (bY (dI K) (aw 1) (tC<|.int 3)) b8)):=qg (r:=L q.x) (s:=L q.y) (t:=L q.z) (El<|aj J gA h2) (Em<|aj J gA h2) (En<|aj J gA h2);refine j3 n1 λu3 H3 s3 q3=>?_;have c3:=aN.up s3 h1;have t3:=gA.up s3 h2;have p3:=bS.up s3 h3;refine bQ.bind (rb:=lF k q.axis r) (kk.at_ s3) (kX (g:=lF k) (r:=L q.axis) (s:=L r) (aj J aN c3) (aj J bS q3)<|aj J bS p3) λy4 u4 H4 s4 _ q4 k4=>?_;refine bQ.bind (rb:=iZ k y4 y4) k4 (kX (g:=iZ k) (r:=L y4) (s:=L y4) (aj J aN<|aN.up s4 c3) (aj J bS q4)<|aj J bS q4) λy5 u5 H5 s5 _ q5 k5=>?_;have zR:=s4.trans s5;refine bQ.bind (rb:=lF k q.axis y5) k5 (kX (g:=lF k) (r:=L q.axis) (s:=L y5) (aj J aN<|aN.up zR c3) (aj J bS<|bS.up zR q3)<|aj J bS q5) λy6 u6 H6 s6 _ q6 k6=>?_;have vH:=zR.trans s6;refine bQ.bind (rb:=ja k q.w y5 r) k6 (zA (g:=λp c d=>ja k c d p) (r:=L r) (c:=L q.w) (s:=L y5) (aj J aN<|aN.up vH c3) (aj J bS<|bS.up vH p3) (Ek (aj J gA<|gA.up vH t3)) (aj J bS<|bS.up s6 q5)) λy7 u7 H7 s7 _ q7 k7=>?_;exact k7.by (kX (g:=iZ k) (r:=L y7) (s:=L y6) (aj J aN<|aN _ _ _ _ (vH.trans s7) c3) (aj J bS q7) (aj J bS<|bS.up s7 q6))
theorem sc_tb:bF ["kind","t","r"] ["kind","t","r"] (ba<|aO 39):=fs
theorem HW(fa:cV k a)(h:NT M E (RC K k) (L a) σ H te):NT M E (RC K k) (L<|qY k a) σ H (d_ (rm K M) [] E<|aU te b8):=by
 have h1:NT M E _ _ σ H te:=λU Q s k1=>h U Q s ⟨λH' v y s' e q=>by cases e;exact k1.ok H' v _ s' J q.1,λ_ _ e=>nomatch e⟩;have h2:=zD h1;rw[Bw.Rj fa.1] at h2;exactλU Q s k1=>h2 U Q s ⟨λH' v y s' e q=>by cases e;exact k1.ok H' v _ s' J ⟨q,Bw.Lb fa⟩,λ_ _ e=>nomatch e⟩
theorem ok_tb(F:bh K "turned_back" "turned_back" (aO 39) f fd)(W:VM P w K mg base M CK)(G1:Gf K mg "turned" (aO 38) f1 bZ ["kind","t","r"])(G2:Gf K mg "opposite" zS f2 di ["x"])(k:aB):aD P w K mg base (aQ P w M) 9 f fd ["kind","t","r"] (N6 K M CK k<|Qs k):=by
 have O1:=MW G1.F W k;have O2:aD P w K mg base (aQ P w M) 8 f2 di _<|rm K M:=(zF G2.F).gz.aV dc;refine F.p3 sc_tb λH Q E _ q r w1 w2 w3 hr h1 h2 h3 kk=>?_
 refine⟨_,aR (bp<|cM O1 hr J G1.m G1.F.kp G1.b .nil aA (bG (O 0) (fV (dC (aX<|O 1) (dC (cM O2 hr J G2.m G2.F.kp G2.b .nil aA<|bz (aX<|O 1))
  (bK (cM O2 hr J G2.m G2.F.kp G2.b .nil aA<|bz (aX<|O 1)) (cM O2 hr J G2.m G2.F.kp G2.b .nil aA<|bz (aX<|O 1))))))<|O 2)),?_⟩
 have fq:cV k q.x/\cV k q.y/\cV k q.z:=by
  obtain⟨a,w,x,y,z,e,hh,e1,e2,e3,e4⟩:=h2;exact⟨e2.2,e3.2,e4.2⟩
 have v1:NT M E _ _ [L w1,L w2,L w3] H<|aw 1:=aj J gA h2;have n4:=MJ (Ek v1) (HW fq.1<|El v1) (HW fq.2.1<|Em v1) (HW fq.2.2<|En v1);exact kk.by (cT (t:=L ((),(⟨q.w,qY k q.x,qY k q.y,qY k q.z⟩:uk),r,())) (f:=λx=>pC k x.2.1 x.2.2.1)<|aF aN (aj J aN h1) (aF gA n4<|aF bS (aj J bS h3) bR))
end
end BW
namespace BW
open PySem PySem.Spec PyProof.Rows L2
open Bw (bV cV bg cq)
theorem Mq(k:aB)(x y:ag):iE k x y=iE k y x:=by
 unfold iE;rw[mn,Pt]
 cases dO k x<;>cases dO k y<;>rfl
theorem each_comm(k:aB)(p q:dR):yz k p q=yz k q p:=by
 unfold yz;rw[Mq k p.x,Mq k p.y,Mq k p.z]
def fR(v0 v1 v2 v3 v4 v5 v6:V):af<|ax×V:=aY "force" v6 (aY "spin" v5<|aY "momentum" v4 (aY "turn" v3<|aY "place" v2 (aY "by_moment" v1<|aY "by_weight" v0 [])))
theorem ZI:(fR v0 v1 v2 v3 v4 v5 v6).lookup ("force":ax)=L v6:=by
 unfold fR;rw[du,aK J]
theorem ZH:(fR v0 v1 v2 v3 v4 v5 v6).lookup ("spin":ax)=L v5:=by
 unfold fR;rw[du,ay dk,du,aK J]
theorem QX:(fR v0 v1 v2 v3 v4 v5 v6).lookup ("momentum":ax)=L v4:=by
 unfold fR;rw[du,ay dk,du,ay dk,du,aK J]
theorem ZG:(fR v0 v1 v2 v3 v4 v5 v6).lookup ("turn":ax)=L v3:=by
 unfold fR;rw[du,ay dk,du,ay dk,du,ay dk,du,aK J]
theorem QW:(fR v0 v1 v2 v3 v4 v5 v6).lookup ("place":ax)=L v2:=by
 unfold fR;rw[du,ay dk,du,ay dk,du,ay dk,du,ay dk,du,aK J]
theorem ZF:(fR v0 v1 v2 v3 v4 v5 v6).lookup ("by_moment":ax)=L v1:=by
 unfold fR;rw[du,ay dk,du,ay dk,du,ay dk,du,ay dk,du,ay dk,du,aK J]
theorem ZE:(fR v0 v1 v2 v3 v4 v5 v6).lookup ("by_weight":ax)=L v0:=by
 unfold fR;rw[du,ay dk,du,ay dk,du,ay dk,du,ay dk,du,ay dk,du,ay dk,du,aK J]
inductive cp(K:aq)(CB:ak)(k:aB)(H:Hp)(v:V)(b:fu):Prop
 |mk:∀a dx v0 v1 v2 v3 v4 v5 v6,v= .ref a->H a=L (.ins CB dx<|fR v0 v1 v2 v3 v4 v5 v6)->RC K k H v0 b.inverse->R3 K k H v1 b.moments->R3 K k H v2 b.at_->R4 K k H v3 b.turn->R3 K k H v4 b.momentum->R3 K k H v5 b.spin->R3 K k H v6 b.force->cp K CB k H v b
theorem cD{K:aq}:cY<|cp K CB k:=λ_ _ _ _ s dm=>by obtain⟨a,dx,v0,v1,v2,v3,v4,v5,v6,e,h,h0,h1,h2,h3,h4,h5,h6⟩:=dm;exact⟨a,dx,v0,v1,v2,v3,v4,v5,v6,e,s _ _ h,aI.up s h0,bS.up s h1,bS.up s h2,gA.up s h3,bS.up s h4,bS.up s h5,bS.up s h6⟩
structure iU(K:aq)(mg:ax->au aH)(CB:ak):Prop where
 cl:j8 K CB
 nw:iD K CB "by_weight"
 nm:iD K CB "by_moment"
 np:iD K CB "place"
 nt:iD K CB "turn"
 HC:iD K CB "momentum"
 ns:iD K CB "spin"
 nf:iD K CB "force"
section
variable{K:aq}{mg:ax->au aH}{M CK CB:ak}{E:XK}{σ:L2.St}{H:Hp}{te:TE}{k:aB}{b:fu}
theorem gB{R':bE β}{x:α}(h0:NT M E R' (L y) σ H te)(hi:∀U v,R' U v y-> ∃a D dx fs u,v= .ref a/\U a=L (.ins D dx fs)/\j8 K D/\iD K D f/\fs.lookup f=L u/\R U u x):NT M E R (L x) σ H<|c9 K te f:=λU Q s k=>by
 refine(h0.at_ s).go λv H2 s2 q=>?_;obtain⟨a,D,dx,fs,u,e1,e2,e3,e4,e5,e6⟩:=hi H2 v q;exact⟨a,D,dx,fs,u,e1,e2,e3,e4,e5,k.ok H2 u x s2 J e6⟩
theorem MG(T:iU K mg CB)(h:NT M E (cp K CB k) (L b) σ H te):NT M E (RC K k) (L b.inverse) σ H<|c9 K te "by_weight":=gB h λ_ _ dW=>by obtain⟨a,dx,v0,v1,v2,v3,v4,v5,v6,e,h,h0,h1,h2,h3,h4,h5,h6⟩:=dW;exact⟨a,CB,dx,_,v0,e,h,T.cl,T.nw,ZE,h0⟩
theorem Ud(T:iU K mg CB)(h:NT M E (cp K CB k) (L b) σ H te):NT M E (R3 K k) (L b.moments) σ H<|c9 K te "by_moment":=gB h λ_ _⟨a,dx,v0,v1,v2,v3,v4,v5,v6,e,h,h0,h1,h2,h3,h4,h5,h6⟩=>⟨a,CB,dx,_,v1,e,h,T.cl,T.nm,ZF,h1⟩
theorem zx(T:iU K mg CB)(h:NT M E (cp K CB k) (L b) σ H te):NT M E (R3 K k) (L b.at_) σ H<|c9 K te "place":=gB h λ_ _⟨a,dx,v0,v1,v2,v3,v4,v5,v6,e,h,h0,h1,h2,h3,h4,h5,h6⟩=>⟨a,CB,dx,_,v2,e,h,T.cl,T.np,QW,h2⟩
theorem xt(T:iU K mg CB)(h:NT M E (cp K CB k) (L b) σ H te):NT M E (R4 K k) (L b.turn) σ H<|c9 K te "turn":=gB h λ_ _⟨a,dx,v0,v1,v2,v3,v4,v5,v6,e,h,h0,h1,h2,h3,h4,h5,h6⟩=>⟨a,CB,dx,_,v3,e,h,T.cl,T.nt,ZG,h3⟩
theorem uX(T:iU K mg CB)(h:NT M E (cp K CB k) (L b) σ H te):NT M E (R3 K k) (L b.momentum) σ H<|c9 K te "momentum":=gB h λ_ _⟨a,dx,v0,v1,v2,v3,v4,v5,v6,e,h,h0,h1,h2,h3,h4,h5,h6⟩=>⟨a,CB,dx,_,v4,e,h,T.cl,T.HC,QX,h4⟩
theorem By(T:iU K mg CB)(h:NT M E (cp K CB k) (L b) σ H te):NT M E (R3 K k) (L b.spin) σ H<|c9 K te "spin":=gB h λ_ _⟨a,dx,v0,v1,v2,v3,v4,v5,v6,e,h,h0,h1,h2,h3,h4,h5,h6⟩=>⟨a,CB,dx,_,v5,e,h,T.cl,T.ns,ZH,h5⟩
theorem Uc(T:iU K mg CB)(h:NT M E (cp K CB k) (L b) σ H te):NT M E (R3 K k) (L b.force) σ H<|c9 K te "force":=gB h λ_ _⟨a,dx,v0,v1,v2,v3,v4,v5,v6,e,h,h0,h1,h2,h3,h4,h5,h6⟩=>⟨a,CB,dx,_,v6,e,h,T.cl,T.nf,ZI,h6⟩
end
section
variable{P:cO}{w:World}{K:aq}{mg:ax->au aH}{base:b9}{M CK CB:ak}
abbrev BZ(K:aq)(M CK CB:ak)(k:aB)(g:fu->au dR):Sp:=cU M (aE (RK CK k)<|aE (cp K CB k) cg) (R3 K k) λx=>g x.2.1
theorem sc_hf:bF ["kind","body"] ["kind","body"] (ba<|aO 46):=fs
theorem ok_hf(F:bh K "how_fast" "how_fast" (aO 46) f fd)(W:VM P w K mg base M CK)(T:iU K mg CB)(k:aB):aD P w K mg base (aQ P w M) 8 f fd ["kind","body"] (BZ K M CK CB k<|pB k):=by
 obtain⟨f1,bZ,m1,k1,b1,O1⟩:=W.NP;refine F.p2 sc_hf λH Q E _ b w1 w2 hr h1 h2 kk=>?_;refine⟨_,aR (bp<|cM (O1 k) hr J m1 k1 b1 .nil aA (bG (O 0) (bu<|O 1) (bu<|O 1))),?_⟩;have v1:NT M E _ _ [L w1,L w2] H<|aw 1:=aj J cD h2;exact kk.by (cT (t:=L ((),b.inverse,b.momentum,())) (f:=λx=>wH k x.2.1 x.2.2.1)<|aF aN (aj J aN h1) (aF aI (MG T v1)<|aF bS (uX T v1) bR))
theorem VP:bF ["kind","body","own"] ["kind","body"] (ba<|aO 47):=fs
theorem ok_ht(F:bh K "how_it_turns" "how_it_turns" (aO 47) f fd)(W:VM P w K mg base M CK)(T:iU K mg CB)(G1:Gf K mg "turned" (aO 38) f1 bZ ["kind","t","r"])(G2:Gf K mg "turned_back" (aO 39) f2 di ["kind","t","r"])(G3:Gf K mg "opposite" zS f3 fv ["x"])(k:aB):aD P w K mg base (aQ P w M) 10 f fd ["kind","body"] (BZ K M CK CB k<|pE k):=by
 have O1:=(MW (P:=P) (w:=w) (base:=base) G1.F W k).aV (k:=9) dc;have O2:=ok_tb (P:=P) (w:=w) (base:=base) G2.F W G1 G3 k;obtain⟨f4,ig,m4,k4,b4,O4'⟩:=W.each;have O4:=(O4' k).aV (k:=9) dc;refine F.p2 VP λH Q E _ b w1 w2 hr h1 h2 kk=>?_
 refine⟨_,aG (bC 2 VP.nd<|cM O2 hr J G2.m G2.F.kp G2.b .nil aA (bG (O 0) (bu<|O 1) (bu<|O 1)))
  (aR (bp<|cM O1 hr J G1.m G1.F.kp G1.b .nil aA (bG (O 0) (bu<|O 1) (cM O4 hr J m4 k4 b4 .nil aA<|bG (O 0) (O 2) (bu<|O 1))))),?_⟩
 have v1:NT M E (cp K CB k) (L b) [L w1,L w2,ah] H<|aw 1:=aj J cD h2;have n1:NT M E (R3 K k) _ _ H (d_ _ [] E<|aU (aw 0) _):=cT (t:=L _) (f:=λx=>Qs k x.2.1 x.2.2.1)<|aF aN (aj J aN h1) (aF gA (xt T v1)<|aF bS (By T v1) bR)
 have kk:bQ M (R3 K k) H ((Qs k b.turn b.spin).bind λl=>(yz k l b.moments).bind λa=>pC k b.turn a) Q E:=kk.eq (by
  show pE k b=_;unfold pE
  congr 1
  funext l
  rw[each_comm])
 refine bQ.bind kk n1 λl u1 U s1 _ q1 k1=>?_;have v0:NT M E (RK CK k) (L ()) [L w1,L w2,L u1] U<|aw 0:=aj J aN<|aN.up s1 h1;have v1:NT M E (cp K CB k) (L b) [L w1,L w2,L u1] U<|aw 1:=aj J cD<|cD.up s1 h2;have v2:NT M E (R3 K k) (L l) [L w1,L w2,L u1] U<|aw 2:=aj J bS q1;have ne:=kX (g:=yz k) (r:=L l) v0 v2<|Ud T v1;have nf:=cT (R:=R3 K k) (f:=λx=>pC k x.2.1 x.2.2.1)<|aF aN v0 (aF gA (xt T v1)<|aF bS ne bR);refine k1.by<|nf.eq ?_
 cases e:yz k l b.moments with
 |none=>simp[e]
 |some y=>simp[e]
end
end BW
namespace BW
open PySem PySem.Spec PyProof.Rows L2
open Bw (bV cV bg cq)
section
variable{K:aq}{CK CB:ak}{k:aB}
theorem Tp:mj<|RP K:=λ_ _ _ _ s dm=>by obtain⟨a,e,h⟩:=dm;exact⟨a,e,s.tup h⟩
theorem dw:mj<|RC K k:=λ_ _ _ _ s dW=>by obtain⟨h,r⟩:=dW;exact⟨Tp.up s h,r⟩
theorem cP:mj<|R3 K k:=λ_ _ _ _ s gw=>by obtain⟨a,x,y,z,e,h,h1,h2,h3⟩:=gw;exact⟨a,x,y,z,e,s.tup h,dw.up s h1,dw.up s h2,dw.up s h3⟩
theorem qQ:mj<|R4 K k:=λ_ _ _ _ s ju=>by obtain⟨a,w,x,y,z,e,h,h1,h2,h3,h4⟩:=ju;exact⟨a,w,x,y,z,e,s.tup h,dw.up s h1,dw.up s h2,dw.up s h3,dw.up s h4⟩
theorem Ml:lD<|RK CK k:=λ_ _ _ _ s mX=>by obtain⟨h,a,dx,e,q⟩:=mX;exact⟨h,a,dx,e,s.2 _ _ _ _ q⟩
theorem uS:lD<|cp K CB k:=λ_ _ _ _ s vW=>by obtain⟨a,dx,v0,v1,v2,v3,v4,v5,v6,e,h,h0,h1,h2,h3,h4,h5,h6⟩:=vW;exact⟨a,dx,v0,v1,v2,v3,v4,v5,v6,e,s.2 _ _ _ _ h,dw _ _ _ _ s.1 h0,cP _ _ _ _ s.1 h1,cP _ _ _ _ s.1 h2,qQ _ _ _ _ s.1 h3,cP _ _ _ _ s.1 h4,cP _ _ _ _ s.1 h5,cP _ _ _ _ s.1 h6⟩
end
structure jB(mg:ax->au aH):Prop where
 tuple:mg "tuple"=ah
 list:mg "list"=ah
 bH:mg "len"=ah
 range:mg "range"=ah
 zip:mg "zip"=ah
 K9:mg "enumerate"=ah
 any:mg "any"=ah
structure Tx(K:aq)(mg:ax->au aH)(D:ak)(x:ax)(fs:af ax):Prop where
 cl:j8 K D
 na:∀f∈fs,iD K D f
 m:mg x=L (.ref D)
section
variable{K:aq}{M:ak}{E:XK}{σ:L2.St}{H:Hp}{te t1 t2:TE}{α:Type}{R:bE α}{xs ys:af α}
def yw(K:aq)(R:bE α):bE<|af α:=λH v xs=>RL K R H v xs\/RT K R H v xs
theorem Br(m:cY R):cY<|yw K R:=λ_ _ _ _ s h=>h.imp (cE m _ _ _ _ s)<|zp m _ _ _ _ s
abbrev Nh(K:aq):af V->Hp->VK->Prop:=λxs H Q=>∃p ys,xs=[.ref p]/\((SqL K H p ys/\ ∀l,H l=ah->Q (.ref l) (aC H l<|.tup ys))\/(cH K H p ys/\Q (.ref p) H))
theorem AR{a b:ag}(hb:b<=vs.length):qK vs (L a) (L b)=(vs.drop a).take (b-a):=by
 unfold qK;have e1:HT.eW vs.length 0 (L a)=min a vs.length:=by
  show(if a<0 then(a+(vs.length:ae)).toNat else min (a:ae).toNat vs.length)=_;rw[ay<|by lia,kI]
 have e2:HT.eW vs.length vs.length (L b)=min b vs.length:=by
  show(if b<0 then(b+(vs.length:ae)).toNat else min (b:ae).toNat vs.length)=_;rw[ay<|by lia,kI]
 rw[e1,e2,Yp hb];rcases Yn a vs.length with h|h
 ·rw[Yp h]
 ·rw[Nat.min_eq_right h,X1 h,X2]
  simp
theorem xw(m:cY R)(h:NT M E (yw K R) (L xs) σ H te)(hb:b<=xs.length)(nw:¬(a=0/\b=xs.length))(Si:a<=b):NT M E (RT K R) (L ((xs.drop a).take<|b-a)) σ H<|xX (Nh K) (aU (B8 (λx lo hi H Q=>zN K x lo hi H Q\/Ng K x lo hi H Q) te (rD (tC<|.int a))<|rD (tC<|.int b)) b8):=λU Q s k=>by
 refine(h.at_ s).go λv H2 s2 q=>⟨_,J,_,J,?_⟩;rcases q with⟨p,vs,rfl,hp,ha⟩|⟨p,vs,rfl,hp,ha⟩
 ·have hl:=ha.bH
  refine .inl ⟨p,vs,J,hp,λl hn=>⟨l,_,J,.inl ⟨SqL.of bw,λt ht=>?_⟩⟩⟩;have s3:=(az.new hn).trans<|az.new (o:=.tup (qK vs (L a)<|L b)) ht;refine k.ok _ _ _ (s2.trans s3) J ⟨t,_,J,cH.of bw,?_⟩;have h:=((ha.drop a).take<|b-a).imp λv x=>m _ _ _ _ s3;rw[<-AR om] at h;exact h
 ·have hl:=ha.bH
  refine .inr ⟨p,vs,J,hp,λz=>nw ?_,λl hn=>⟨l,_,J,.inr ⟨cH.of bw,?_⟩⟩⟩
  ·have e1:HT.eW vs.length 0 (L a)=min a vs.length:=by
    show(if a<0 then(a+(vs.length:ae)).toNat else min (a:ae).toNat vs.length)=_;rw[ay<|by lia,kI]
   have e2:HT.eW vs.length vs.length (L b)=min b vs.length:=by
    show(if b<0 then(b+(vs.length:ae)).toNat else min (b:ae).toNat vs.length)=_;rw[ay<|by lia,kI]
   lia
  ·have s3:=az.new (o:=.tup (qK vs (L a)<|L b)) hn
   refine k.ok _ _ _ (s2.trans s3) J ⟨l,_,J,cH.of bw,?_⟩;have h:=((ha.drop a).take<|b-a).imp λv x=>m _ _ _ _ s3;rw[<-AR om] at h;exact h
theorem HM(m:cY R)(j:ag)(h:NT M E (yw K R) (L xs) σ H te)(hx:xs[j]? =L x):NT M E R (L x) σ H<|bY (tF K) te (tC<|.int j):=xy j h λU v q=>by
 rcases q with⟨p,vs,rfl,hp,ha⟩|⟨p,vs,rfl,hp,ha⟩
 ·obtain⟨u,hu,r⟩:=ha.sF hx
  exact⟨p,vs,u,J,.inl hp,hu,r⟩
 ·obtain⟨u,hu,r⟩:=ha.sF hx
  exact⟨p,vs,u,J,.inr hp,hu,r⟩
theorem xu(m:cY R)(h1:NT M E (RT K R) (L xs) σ H t1)(h2:NT M E (RT K R) (L ys) σ H t2)(n1:xs≠[])(n2:ys≠[])(hz:xs.length+ys.length<=bI):NT M E (RT K R) (L<|xs++ys) σ H<|bY (Nc K) t1 t2:=λU Q s k=>by
 refine(h1.at_ s).go λv H2 s2 q=>?_;refine(h2.at_<|s.trans s2).go λu H3 s3 q2=>?_;obtain⟨p,vs,rfl,hp,ha⟩:=zp m _ _ _ _ s3 q;obtain⟨p',us,rfl,DR,ha'⟩:=q2;have l1:=ha.bH;have l2:=ha'.bH;refine⟨p,p',vs,us,J,J,hp,DR,λz=>n1<|oo (by rw[<-l1,z];rfl),(by lia),λz=>absurd (oo (by rw[<-l2,z];rfl)) n2,λ_ t ht=>?_⟩;exact k.ok _ _ _ ((s2.trans s3).trans<|az.new ht) J ⟨t,_,J,cH.of bw,(ha.append ha').imp λv x=>m _ _ _ _<|az.new ht⟩
end
section
variable{K:aq}{M:ak}{E:XK}{σ:L2.St}{H:Hp}{te:TE}{k:aB}
theorem L8{R:V->α->Prop}{x y z:α}(h:cf R vs [x,y,z]):∃a b c,vs=[a,b,c]/\R a x/\R b y/\R c z:=by
 cases vs with
 |nil=>exact h.elim
 |cons a vs=>
  obtain⟨h1,h⟩:=h
  cases vs with
  |nil=>exact h.elim
  |cons b vs=>
   obtain⟨h2,h⟩:=h
   cases vs with
   |nil=>exact h.elim
   |cons c vs=>
    obtain⟨h3,h⟩:=h
    cases vs with
    |nil=>exact⟨a,b,c,J,h1,h2,h3⟩
    |cons d vs=>exact h.elim
theorem L'{R:V->α->Prop}{w x y z:α}(h:cf R vs [w,x,y,z]):∃a b c d,vs=[a,b,c,d]/\R a w/\R b x/\R c y/\R d z:=by
 cases vs with
 |nil=>exact h.elim
 |cons a vs=>
  obtain⟨h1,h⟩:=h;obtain⟨b,c,d,rfl,h2,h3,h4⟩:=L8 h;exact⟨a,b,c,d,J,h1,h2,h3,h4⟩
theorem vB(h:RT K (RC K k) H v [x,y,z]):R3 K k H v ⟨x,y,z⟩:=by
 obtain⟨p,vs,rfl,hp,ha⟩:=h;obtain⟨a,b,c,rfl,h1,h2,h3⟩:=L8 ha;exact⟨p,a,b,c,J,hp,h1,h2,h3⟩
theorem r4_of(h:RT K (RC K k) H v [w,x,y,z]):R4 K k H v ⟨w,x,y,z⟩:=by
 obtain⟨p,vs,rfl,hp,ha⟩:=h;sleep 3;obtain⟨a,b,c,d,rfl,h1,h2,h3,h4⟩:=L' ha;sleep 4;exact⟨p,a,b,c,d,J,hp,h1,h2,h3,h4⟩
theorem qt(h:R3 K k H v p):RT K (RC K k) H v p.list:=by
 obtain⟨a,x,y,z,rfl,hp,h1,h2,h3⟩:=h;exact⟨a,_,J,hp,h1,h2,h3,ck⟩
theorem Vm(h:R4 K k H v p):RT K (RC K k) H v p.list:=by
 obtain⟨a,w,x,y,z,rfl,hp,h1,h2,h3,h4⟩:=h;exact⟨a,_,J,hp,h1,h2,h3,h4,ck⟩
theorem _root_.L2.NT.conv{R':bE β}{y:α}(h:NT C E R (L y) σ H te)(w:∀H v,R H v y->R' H v z):NT C E R' (L z) σ H te:=λU Q s k=>
 h U Q s ⟨λH' v x s' e q=>by cases e;exact k.ok H' v z s' J<|w _ _ q,λ_ _ e=>nomatch e⟩
theorem lR{R:bE α}{fs:af (ax×V)}(h:NT M E R (L y) σ Hc te)(hv:σ[0]? =L (L<|.ref p))(hp:Hc p=L (.ins CC dx fs))(cl:j8 K CC)(na:iD K CC f)(hl:fs.length<1000)
 (next:∀v U,az Hc U->R U v y->U p=L (.ins CC dx fs)->D.nx σ (aC U p (.ins CC dx<|aY f v fs))):xN K (aw 0) te f D σ Hc:=h.go λv U s1 q=>⟨_,hv,p,CC,dx,fs,J,s1 _ _ hp,cl,na,hl,next v U s1 q (s1 _ _ hp)⟩
theorem uP{R':bE β}{rb:au β}{g:β->au α}{fs:af (ax×V)}(kk:bQ M R Hb (rb.bind g) Q E)(sb:az Hb Hc)(h:NT M E R' rb σ Hc te)(hv:σ[0]? =L (L<|.ref p))(hp:Hc p=L (.ins CC dx fs))(cl:j8 K CC)(na:iD K CC f)(hl:fs.length<1000)
 (next:∀y v U,az Hc U->R' U v y->U p=L (.ins CC dx fs)->bQ M R Hb (g y) Q E->D.nx σ (aC U p (.ins CC dx<|aY f v fs))):xN K (aw 0) te f D σ Hc:=kk.bindB sb h λy v U s1 _ q k1=>⟨_,hv,p,CC,dx,fs,J,s1 _ _ hp,cl,na,hl,next y v U s1 q (s1 _ _ hp) k1⟩
theorem gS(sb:az Hb Hc)(s:az Hc U)(hn:Hb p=ah):az Hb<|aC U p o:=λb u e=>by
 rw[bJ<|dy e hn];exact s _ _<|sb _ _ e
end
def AQ(l:af ag):fu:=⟨l.getD 0 0,⟨l.getD 1 0,l.getD 2 0,l.getD 3 0⟩,⟨l.getD 4 0,l.getD 5 0,l.getD 6 0⟩,⟨l.getD 7 0,l.getD 8 0,l.getD 9 0,l.getD 10 0⟩,⟨l.getD 11 0,l.getD 12 0,l.getD 13 0⟩,⟨l.getD 14 0,l.getD 15 0,l.getD 16 0⟩,l.getD 17 0,l.getD 18 0,l.getD 19 0⟩
theorem oC{α:Type}{l:af α}(h:l.length=n+1):∃a t,l=a::t/\t.length=n:=by
 cases l with
 |nil=>cases h
 |cons a t=>exact⟨a,t,J,by simpa using h⟩
def CY(K:aq)(k:aB):bE<|af ag:=λH v xs=>yw K (RC K k) H v xs/\xs.length=20
theorem D9{K:aq}:cY<|CY K k:=λ_ _ _ _ s h=>⟨Br aI _ _ _ _ s h.1,h.2⟩
abbrev sB(j:ag):dq:=sQ (aO 42) j
abbrev ZD:af ax:=["by_weight","by_moment","place","turn","momentum","spin","force"]
section
variable{P:cO}{w:World}{K:aq}{mg:ax->au aH}{base:b9}{M CK CB CM CP:ak}
theorem scBI:bF ["self","numbers"] ["self","numbers"] (ba<|sB 0):=fs
abbrev Fg(K:aq)(M CB:ak)(k:aB):Sp:=tL M CB (aE (CY K k) cg) (cp K CB k) λx=>L<|AQ x.1
theorem ok_binit{f:ak}{fd:c7}(F:bh K "__init__" "Body.__init__" (sB 0) f fd)(TC:jB mg)(TB:iU K mg CB)(k:aB):aD P w K mg base (aQ P w M) 10 f fd ["self","numbers"]<|Fg K M CB k:=by
 refine F.oc scBI λH Q E hr h=>?_;obtain⟨Hb,p,dx,⟨l,_⟩,r,rfl,hp,sb,hn,ar1,kk,_⟩:=h;refine ar1.c1 λv uM=>?_;obtain⟨hl,uI⟩:=uM;refine⟨_,(aG (dM (O 0) (d4 ji (O 1) a_ λ_ _=>J) J) (aG (dM (O 0) (nX qJ J TC.tuple sk<|bz (lX (l_.or xS) (O 1) (gd a_)<|gd a_)) J) (aG (dM (O 0) (nX qJ J TC.tuple sk<|bz (lX (l_.or xS) (O 1) (gd a_)<|gd a_)) J) (aG (dM (O 0) (nX qJ J TC.tuple sk<|bz (lX (l_.or xS) (O 1) (gd a_)<|gd a_)) J) (aG (dM (O 0) (nX qJ J TC.tuple sk<|bz (lX (l_.or xS) (O 1) (gd a_)<|gd a_)) J) (aG (dM (O 0) (nX qJ J TC.tuple sk<|bz (lX (l_.or xS) (O 1) (gd a_)<|gd a_)) J) (aR<|dM (O 0) (nX qJ J TC.tuple sk<|bz (lX (l_.or xS) (O 1) (gd a_)<|gd a_)) J))))))),?_⟩;sleep 3;obtain⟨a0,a1,a2,a3,a4,a5,a6,a7,a8,a9,jU,pF,pG,pH,pI,pJ,pK,pL,pM,sj⟩:=Bw.L_ uI;sleep 4;have hv:∀{Hc:Hp},az Hb Hc->NT M E (yw K<|RC K k) _ [L<|.ref p,L v] Hc (aw 1):=λs=>aj J (Br aI)<|Br aI _ _ _ _ s hl;refine lR (HM aI 0 (hv sb) J) J hp TB.cl TB.nw dc λv0 H0 s0 q0 p0=>?_;have b0:=gS (o:=.ins CB dx<|aY "by_weight" v0 []) sb s0 hn;refine lR (xw aI (a:=1) (b:=4) (hv b0) (by show 4<=20;decide) (by show¬(1=0/\4=20);decide) dc) J bw TB.cl TB.nm (by show 1<1000;decide) λv1 U s1 q1 p1=>?_;have b1:=gS (o:=.ins CB dx (aY "by_moment" v1<|aY "by_weight" v0 [])) b0 s1 hn;refine lR (xw aI (a:=4) (b:=7) (hv b1) (by show 7<=20;decide) (by show¬(4=0/\7=20);decide) dc) J bw TB.cl TB.np (by show 2<1000;decide) λv2 H2 s2 q2 p2=>?_;have b2:=gS (o:=.ins CB dx<|aY "place" v2 (aY "by_moment" v1<|aY "by_weight" v0 [])) b1 s2 hn;refine lR (xw aI (a:=7) (b:=11) (hv b2) (by show 11<=20;decide) (by show¬(7=0/\11=20);decide) dc) J bw TB.cl TB.nt (by show 3<1000;decide) λv3 H3 s3 q3 p3=>?_;have b3:=gS (o:=.ins CB dx (aY "turn" v3<|aY "place" v2 (aY "by_moment" v1<|aY "by_weight" v0 []))) b2 s3 hn;refine lR (xw aI (a:=11) (b:=14) (hv b3) (by show 14<=20;decide) (by show¬(11=0/\14=20);decide) dc) J bw TB.cl TB.HC (by show 4<1000;decide) λv4 H4 s4 q4 p4=>?_;have b4:=gS (o:=.ins CB dx<|aY "momentum" v4 (aY "turn" v3<|aY "place" v2 (aY "by_moment" v1<|aY "by_weight" v0 []))) b3 s4 hn;refine lR (xw aI (a:=14) (b:=17) (hv b4) (by show 17<=20;decide) (by show¬(14=0/\17=20);decide) dc) J bw TB.cl TB.ns (by show 5<1000;decide) λv5 H5 s5 q5 p5=>?_;have b5:=gS (o:=.ins CB dx (aY "spin" v5<|aY "momentum" v4 (aY "turn" v3<|aY "place" v2 (aY "by_moment" v1<|aY "by_weight" v0 [])))) b4 s5 hn;refine lR (xw aI (a:=17) (b:=20) (hv b5) (by show 20<=20;decide) (by show¬(17=0/\20=20);decide) dc) J bw TB.cl TB.nf (by show 6<1000;decide) λv6 H6 s6 q6 p6=>?_;have t6:cw H6<|aC H6 p (.ins CB dx<|fR v0 v1 v2 v3 v4 v5 v6):=cw.aC (by rw[p6];trivial);have t5:cw H5 _:=((cw.aC (by rw[p5];trivial)).trans s6.i.1).trans t6;have t4:cw H4 _:=((cw.aC (by rw[p4];trivial)).trans s5.i.1).trans t5;have t3:cw H3 _:=((cw.aC (by rw[p3];trivial)).trans s4.i.1).trans t4;have t2:cw H2 _:=((cw.aC (by rw[p2];trivial)).trans s3.i.1).trans t3;have t1:cw U _:=((cw.aC (by rw[p1];trivial)).trans s2.i.1).trans t2;have t0:cw H0 _:=((cw.aC (by rw[p0];trivial)).trans s1.i.1).trans t1;exact kk _ _ (gS b5 s6 hn) J ⟨p,dx,v0,v1,v2,v3,v4,v5,v6,J,bw,dw.up t0 q0,cP.up t1<|vB q1,cP.up t2<|vB q2,qQ.up t3<|r4_of q3,cP.up t4<|vB q4,cP.up t5<|vB q5,cP.up t6<|vB q6⟩
abbrev vN(K:aq)(M CB:ak)(k:aB):Sp:=cU M (aE (cp K CB k) cg) (RT K<|RC K k) λx=>L<|nz x.1
theorem scTw:bF ["self"] ["self"] (ba<|sB 1):=fs
theorem ok_twenty{f:ak}{fd:c7}(F:bh K "twenty" "Body.twenty" (sB 1) f fd)(TB:iU K mg CB)(k:aB):aD P w K mg base (aQ P w M) 10 f fd ["self"]<|vN K M CB k:=by
 refine F.p1 scTw λH Q E b v hr h1 kk=>?_;refine⟨_,(aR<|bp (bO xD (bO xD (bO xD (bO xD (bO xD (bO xD (fV<|bz (bu<|O 0)) (bu<|O 0)) (bu<|O 0)) (bu<|O 0)) (bu<|O 0)) (bu<|O 0)) (bu<|O 0))),?_⟩;have v0:NT M E (cp K CB k) (L b) [L v] H<|aw 0:=aj J cD h1;have n0:NT M E (RT K<|RC K k) (L [b.inverse]) [L v] H (lq<|aU (c9 K (aw 0) "by_weight") b8):=NT.eq (zE (f:=λx=>L [x.1]) (aF aI (MG TB v0) bR) (λ_ _ _ Pe=>by obtain⟨v,r,e,_,e2⟩:=Pe;subst e e2;show 1<=bI;decide) (λ_ _ y p Ac hp=>by obtain⟨v,r,e,q1,e2⟩:=Ac;subst e e2;exact⟨_,J,p,_,J,cH.of hp,q1,ck⟩)<|mH aI zt) J
 have n1:=xu aI n0 ((Ud TB v0).conv λ_ _=>qt) (by simp) (by simp[ow]) (by show 1+3<=bI;decide);have n2:=xu aI n1 ((zx TB v0).conv λ_ _=>qt) (by simp) (by simp[ow]) (by show 4+3<=bI;decide);have n3:=xu aI n2 ((xt TB v0).conv λ_ _=>Vm) (by simp) (by simp[YS]) (by show 7+4<=bI;decide);have n4:=xu aI n3 ((uX TB v0).conv λ_ _=>qt) (by simp) (by simp[ow]) (by show 11+3<=bI;decide);have n5:=xu aI n4 ((By TB v0).conv λ_ _=>qt) (by simp) (by simp[ow]) (by show 14+3<=bI;decide);have n6:=xu aI n5 ((Uc TB v0).conv λ_ _=>qt) (by simp) (by simp[ow]) (by show 17+3<=bI;decide);exact kk.by n6
end
end BW
namespace BW
open PySem PySem.Spec PyProof.Rows L2
open Bw (bV cV bg cq rN rT iF ir gc)
abbrev xg:af ax:=["place","turn","speed","turning"]
abbrev zH:af ax:=["arm","place","speed"]
def Bs(v0 v1 v2 v3:V):af<|ax×V:=aY "turning" v3<|aY "speed" v2 (aY "turn" v1<|aY "place" v0 [])
def EG(v0 v1 v2:V):af<|ax×V:=aY "speed" v2 (aY "place" v1<|aY "arm" v0 [])
inductive jS(K:aq)(CM:ak)(k:aB)(H:Hp)(v:V)(m:rN):Prop
 |mk:∀a dx v0 v1 v2 v3,v= .ref a->H a=L (.ins CM dx<|Bs v0 v1 v2 v3)->R3 K k H v0 m.at_->R4 K k H v1 m.turn->R3 K k H v2 m.v->R3 K k H v3 m.o->jS K CM k H v m
inductive lE(K:aq)(CP:ak)(k:aB)(H:Hp)(v:V)(m:rT):Prop
 |mk:∀a dx v0 v1 v2,v= .ref a->H a=L (.ins CP dx<|EG v0 v1 v2)->R3 K k H v0 m.Df->R3 K k H v1 m.at_->R3 K k H v2 m.v->lE K CP k H v m
section
variable{K:aq}{CM CP M:ak}{k:aB}{mg:ax->au aH}{E:XK}{σ:L2.St}{H:Hp}{te:TE}
theorem mG:lD<|jS K CM k:=λ_ _ _ _ s dm=>by obtain⟨a,dx,v0,v1,v2,v3,e,h,h0,h1,h2,h3⟩:=dm;exact⟨a,dx,v0,v1,v2,v3,e,s.2 _ _ _ _ h,cP _ _ _ _ s.1 h0,qQ _ _ _ _ s.1 h1,cP _ _ _ _ s.1 h2,cP _ _ _ _ s.1 h3⟩
theorem uT:lD<|lE K CP k:=λ_ _ _ _ s dW=>by obtain⟨a,dx,v0,v1,v2,e,h,h0,h1,h2⟩:=dW;exact⟨a,dx,v0,v1,v2,e,s.2 _ _ _ _ h,cP _ _ _ _ s.1 h0,cP _ _ _ _ s.1 h1,cP _ _ _ _ s.1 h2⟩
theorem nt_mp(T:Tx K mg CM "Motion" xg)(h:NT M E (jS K CM k) (L m) σ H te):NT M E (R3 K k) (L m.at_) σ H<|c9 K te "place":=gB h λ_ _ gw=>by obtain⟨a,dx,v0,v1,v2,v3,e,h,h0,h1,h2,h3⟩:=gw;exact⟨a,CM,dx,_,v0,e,h,T.cl,T.na _ dk,by unfold Bs;sleep 1,h0⟩
theorem nt_mt(T:Tx K mg CM "Motion" xg)(h:NT M E (jS K CM k) (L m) σ H te):NT M E (R4 K k) (L m.turn) σ H<|c9 K te "turn":=gB h λ_ _⟨a,dx,v0,v1,v2,v3,e,h,h0,h1,h2,h3⟩=>⟨a,CM,dx,_,v1,e,h,T.cl,T.na _ dk,by unfold Bs;sleep 1,h1⟩
theorem nt_mv(T:Tx K mg CM "Motion" xg)(h:NT M E (jS K CM k) (L m) σ H te):NT M E (R3 K k) (L m.v) σ H<|c9 K te "speed":=gB h λ_ _⟨a,dx,v0,v1,v2,v3,e,h,h0,h1,h2,h3⟩=>⟨a,CM,dx,_,v2,e,h,T.cl,T.na _ dk,by unfold Bs;sleep 1,h2⟩
theorem nt_mo(T:Tx K mg CM "Motion" xg)(h:NT M E (jS K CM k) (L m) σ H te):NT M E (R3 K k) (L m.o) σ H<|c9 K te "turning":=gB h λ_ _⟨a,dx,v0,v1,v2,v3,e,h,h0,h1,h2,h3⟩=>⟨a,CM,dx,_,v3,e,h,T.cl,T.na _ dk,by unfold Bs;sleep 1,h3⟩
theorem Ut(T:Tx K mg CP "Point" zH)(h:NT M E (lE K CP k) (L m) σ H te):NT M E (R3 K k) (L m.Df) σ H<|c9 K te "arm":=gB h λ_ _ y9_=>by obtain⟨a,dx,v0,v1,v2,e,h,h0,h1,h2⟩:=y9_;exact⟨a,CP,dx,_,v0,e,h,T.cl,T.na _ dk,by unfold EG;sleep 1,h0⟩
theorem Uv(T:Tx K mg CP "Point" zH)(h:NT M E (lE K CP k) (L m) σ H te):NT M E (R3 K k) (L m.at_) σ H<|c9 K te "place":=gB h λ_ _⟨a,dx,v0,v1,v2,e,h,h0,h1,h2⟩=>⟨a,CP,dx,_,v1,e,h,T.cl,T.na _ dk,by unfold EG;sleep 1,h1⟩
theorem Uw(T:Tx K mg CP "Point" zH)(h:NT M E (lE K CP k) (L m) σ H te):NT M E (R3 K k) (L m.v) σ H<|c9 K te "speed":=gB h λ_ _⟨a,dx,v0,v1,v2,e,h,h0,h1,h2⟩=>⟨a,CP,dx,_,v2,e,h,T.cl,T.na _ dk,by unfold EG;sleep 1,h2⟩
end
section
variable(P:cO)(w:World)(K:aq)(mg:ax->au aH)(base:b9)(M CK CB:ak)
structure BM:Prop where
 V:VM P w K mg base M CK
 TB:iU K mg CB
 tu:cX P w K mg base M 10 "turned" ["kind","t","r"] λk=>N6 K M CK k (pC k)
 hf:cX P w K mg base M 10 "how_fast" ["kind","body"] λk=>BZ K M CK CB k (pB k)
 ht:cX P w K mg base M 10 "how_it_turns" ["kind","body"] λk=>BZ K M CK CB k (pE k)
 tp:cX P w K mg base M 10 "turn_product" ["kind","s","t"] λk=>Wq K M CK k
 mo:cX P w K mg base M 10 "made_one_long" ["kind","t"] λk=>Jc K M CK k<|yD k
end
section
variable{P:cO}{w:World}{K:aq}{mg:ax->au aH}{base:b9}{M CK CB CM CP:ak}
abbrev sM:dq:=sQ (aO 43) 0
abbrev Vr:dq:=sQ (aO 44) 0
theorem scMI:bF ["self","kind","body"] ["self","kind","body"]<|ba sM:=fs
abbrev Oh(K:aq)(M CK CB CM:ak)(k:aB):Sp:=tL M CM (aE (RK CK k)<|aE (cp K CB k) cg) (jS K CM k) λx=>ir k x.2.1
theorem ok_minit{f:ak}{fd:c7}(F:bh K "__init__" "Motion.__init__" sM f fd)(B:BM P w K mg base M CK CB)(T:Tx K mg CM "Motion" xg)(k:aB):aD P w K mg base (aQ P w M) 12 f fd ["self","kind","body"]<|Oh K M CK CB CM k:=by
 have TB:=B.TB;refine F.oc scMI λH Q E hr h=>?_;obtain⟨Hb,p,dx,⟨_,b,_⟩,r,rfl,hp,sb,hn,ar2,kk,kn⟩:=h;refine ar2.c2 λw1 w2 h1 h2=>?_;refine⟨_,(aG (dM (O 0) (bu<|O 2) J) (aG (dM (O 0) (bu<|O 2) J) (aG (dM (O 0) (B.hf.c k hr aA (bK (O 1)<|O 2)) J) (aR<|dM (O 0) (B.ht.c k hr aA (bK (O 1)<|O 2)) J)))),?_⟩;have kk:bQ M (jS K CM k) Hb (ir k b) (λv H'=>∀a,v= .ref a->a=p->Q .cu H') E:=⟨λH' v y s e q a e1 e2=>by subst e1 e2;exact kk H' y s e q,kn⟩;have v0:∀{Hc:Hp},az Hb Hc->NT M E (RK CK k) (L ()) [L<|.ref p,L w1,L w2] Hc (aw 1):=λs=>aj J aN<|aN.up s h1;have v1:∀{Hc:Hp},az Hb Hc->NT M E (cp K CB k) (L b) [L<|.ref p,L w1,L w2] Hc (aw 2):=λs=>aj J cD<|cD.up s h2;refine lR (zx TB<|v1 sb) J hp T.cl (T.na _ dk) dc λu0 H0 s0 q0 p0=>?_;have c0:=gS (o:=.ins CM dx<|aY "place" u0 []) sb s0 hn;refine lR (xt TB<|v1 c0) J bw T.cl (T.na _ dk) (by show 1<1000;decide) λu1 U s1 q1 p1=>?_;have c1:=gS (o:=.ins CM dx (aY "turn" u1<|aY "place" u0 [])) c0 s1 hn;refine uP (rb:=pB k b) kk c1 (cT (t:=L ((),b,())) (f:=λx=>pB k x.2.1) (aF aN (v0 c1)<|aF cD (v1 c1) bR)) J bw T.cl (T.na _ dk) (by show 2<1000;decide) λy2 u2 H2 s2 q2 p2 kk=>?_;have c2:=gS (o:=.ins CM dx<|aY "speed" u2 (aY "turn" u1<|aY "place" u0 [])) c1 s2 hn;have kk:bQ M (jS K CM k) Hb ((pE k b).bind λo=>L ⟨b.at_,b.turn,y2,o⟩) (λv H'=>∀a,v= .ref a->a=p->Q .cu H') E:=kk.eq<|by cases pE k b<;>rfl
 refine uP (rb:=pE k b) kk c2 (cT (t:=L ((),b,())) (f:=λx=>pE k x.2.1) (aF aN (v0 c2)<|aF cD (v1 c2) bR)) J bw T.cl (T.na _ dk) (by show 3<1000;decide) λy3 u3 H3 s3 q3 p3 kk=>?_;have t3:cw H3<|aC H3 p (.ins CM dx<|Bs u0 u1 u2 u3):=cw.aC (by rw[p3];trivial);have t2:cw H2 _:=((cw.aC (by rw[p2];trivial)).trans s3.i.1).trans t3;have t1:cw U _:=((cw.aC (by rw[p1];trivial)).trans s2.i.1).trans t2;have t0:cw H0 _:=((cw.aC (by rw[p0];trivial)).trans s1.i.1).trans t1;exact kk.ok _ (.ref p) _ (gS c2 s3 hn) J ⟨p,dx,u0,u1,u2,u3,J,bw,cP.up t0 q0,qQ.up t1 q1,cP.up t2 q2,cP.up t3 q3⟩ p J J
theorem scPI:bF ["self","kind","motion","r"] ["self","kind","motion","r"]<|ba Vr:=fs
abbrev Oq(K:aq)(M CK CM CP:ak)(k:aB):Sp:=tL M CP (aE (RK CK k) (aE (jS K CM k)<|aE (R3 K k) cg)) (lE K CP k) λx=>gc k x.2.1 x.2.2.1
theorem ok_pinit{f:ak}{fd:c7}(F:bh K "__init__" "Point.__init__" Vr f fd)(B:BM P w K mg base M CK CB)(T:Tx K mg CP "Point" zH)(TM:Tx K mg CM "Motion" xg)(k:aB):aD P w K mg base (aQ P w M) 12 f fd ["self","kind","motion","r"]<|Oq K M CK CM CP k:=by
 refine F.oc scPI λH Q E hr h=>?_;obtain⟨Hb,p,dx,⟨_,m,r,_⟩,rr,rfl,hp,sb,hn,ar3,kk,kn⟩:=h;refine ar3.c3 λw1 w2 w3 h1 h2 h3=>?_;refine⟨_,(aG (dM (O 0) (B.tu.c k hr aA<|bG (O 1) (bu<|O 2)<|O 3) J) (aG (dM (O 0) (B.V.add.c k hr aA (bG (O 1) (bu<|O 2) (bu<|O 0))) J) (aR<|dM (O 0) (B.V.add.c k hr aA (bG (O 1) (bu<|O 2)<|B.V.cross.c k hr aA (bG (O 1) (bu<|O 2) (bu<|O 0)))) J))),?_⟩;have kk:bQ M (lE K CP k) Hb (gc k m r) (λv H'=>∀a,v= .ref a->a=p->Q .cu H') E:=⟨λH' v y s e q a e1 e2=>by subst e1 e2;exact kk H' y s e q,kn⟩;have v0:∀{Hc:Hp},az Hb Hc->NT M E (RK CK k) (L ()) [L<|.ref p,L w1,L w2,L w3] Hc (aw 1):=λs=>aj J aN<|aN.up s h1;have v1:∀{Hc:Hp},az Hb Hc->NT M E (jS K CM k) (L m) [L<|.ref p,L w1,L w2,L w3] Hc (aw 2):=λs=>aj J mG.m<|mG.m.up s h2;have v2:∀{Hc:Hp},az Hb Hc->NT M E (R3 K k) (L r) [L<|.ref p,L w1,L w2,L w3] Hc (aw 3):=λs=>aj J bS<|bS.up s h3;refine uP (rb:=pC k m.turn r) kk sb (cT (t:=L ((),m.turn,r,())) (f:=λx=>pC k x.2.1 x.2.2.1) (aF aN (v0 sb)<|aF gA (nt_mt TM<|v1 sb)<|aF bS (v2 sb) bR)) J hp T.cl (T.na _ dk) dc λy0 u0 H0 s0 q0 p0 kk=>?_;have c0:=gS (o:=.ins CP dx<|aY "arm" u0 []) sb s0 hn;have a0:R3 K k (aC H0 p (.ins CP dx<|aY "arm" u0 [])) u0 y0:=cP _ _ _ _ (cw.aC (by rw[p0];trivial)) q0;have va:NT M E (R3 K k) (L y0) [L<|.ref p,L w1,L w2,L w3] (aC H0 p (.ins CP dx<|aY "arm" u0 []))<|c9 K (aw 0) "arm":=λU Q s k=>⟨_,J,p,CP,dx,_,u0,J,s _ _ bw,T.cl,T.na _ dk,by sleep 1,k.ok _ _ _ sr J<|bS.up s a0⟩;refine uP (rb:=iZ k m.at_ y0) kk c0 (kX (g:=iZ k) (r:=L m.at_) (s:=L y0) (v0 c0) (nt_mp TM<|v1 c0) va) J bw T.cl (T.na _ dk) (by show 1<1000;decide) λy1 u1 U s1 q1 p1 kk=>?_;have c1:=gS (o:=.ins CP dx (aY "place" u1<|aY "arm" u0 [])) c0 s1 hn;have a1:R3 K k (aC U p<|.ins CP dx (aY "place" u1<|aY "arm" u0 [])) u0 y0:=cP _ _ _ _ (cw.aC (by rw[p1];trivial))<|bS.up s1 a0;have va:NT M E (R3 K k) (L y0) [L<|.ref p,L w1,L w2,L w3] (aC U p<|.ins CP dx (aY "place" u1<|aY "arm" u0 []))<|c9 K (aw 0) "arm":=λU Q s k=>⟨_,J,p,CP,dx,_,u0,J,s _ _ bw,T.cl,T.na _ dk,by sleep 1,k.ok _ _ _ sr J<|bS.up s a1⟩
 have kk:bQ M (lE K CP k) Hb (((lF k m.o y0).bind λc=>iZ k m.v c).bind λu=>L ⟨y0,y1,u⟩) (λv H'=>∀a,v= .ref a->a=p->Q .cu H') E:=kk.eq (by
  cases lF k m.o y0 with
  |none=>rfl
  |some c=>show(iZ k m.v c).map _=(iZ k m.v c).bind _;cases iZ k m.v c<;>rfl)
 have nc:=kX (g:=lF k) (r:=L m.o) (s:=L y0) (v0 c1) (nt_mo TM<|v1 c1) va;refine uP kk c1 ((kX (g:=iZ k) (r:=L m.v) (s:=lF k m.o y0) (v0 c1) (nt_mv TM<|v1 c1) nc).eq<|by cases lF k m.o y0<;>rfl) J bw T.cl (T.na _ dk) (by show 2<1000;decide) λy2 u2 H2 s2 q2 p2 kk=>?_;have t2:cw H2<|aC H2 p (.ins CP dx<|EG u0 u1 u2):=cw.aC (by rw[p2];trivial);have t1:cw U _:=((cw.aC (by rw[p1];trivial)).trans s2.i.1).trans t2;exact kk.ok _ (.ref p) _ (gS c1 s2 hn) J ⟨p,dx,u0,u1,u2,J,bw,cP _ _ _ _ (s2.i.1.trans t2) a1,cP.up t1 q1,cP.up t2 q2⟩ p J J
end
end BW
namespace BW
open PySem PySem.Spec PyProof.Rows L2
open Bw (bV cV bg cq rN rT iF ir gc qE j4 lY kF bf)
abbrev oR:af ax:=["first","second","first_point","second_point","stiffness","damping","rest"]
abbrev uU:af ax:=["first_end","second_end","way","length"]
abbrev z_:af ax:=["first_arm","second_arm","force"]
def oX(v0 v1 v2 v3 v4 v5 v6:V):af<|ax×V:=aY "rest" v6 (aY "damping" v5<|aY "stiffness" v4 (aY "second_point" v3<|aY "first_point" v2 (aY "second" v1<|aY "first" v0 [])))
def z5(v0 v1 v2 v3:V):af<|ax×V:=aY "length" v3<|aY "way" v2 (aY "second_end" v1<|aY "first_end" v0 [])
def EI(v0 v1 v2:V):af<|ax×V:=aY "force" v2 (aY "second_arm" v1<|aY "first_arm" v0 [])
inductive i_(K:aq)(CS:ak)(k:aB)(H:Hp)(v:V)(s:ke):Prop
 |mk:∀a dx v2 v3 v4 v5 v6,v= .ref a->H a=L (.ins CS dx<|oX (.int s.one) (.int s.other) v2 v3 v4 v5 v6)->R3 K k H v2 s.from_->R3 K k H v3 s.to->RC K k H v4 s.stiff->RC K k H v5 s.damp->RC K k H v6 s.rest->i_ K CS k H v s
inductive jA(K:aq)(CN CP:ak)(k:aB)(H:Hp)(v:V)(m:iF):Prop
 |mk:∀a dx v0 v1 v2 v3,v= .ref a->H a=L (.ins CN dx<|z5 v0 v1 v2 v3)->lE K CP k H v0 m.a->lE K CP k H v1 m.b->R3 K k H v2 m.JF->RC K k H v3 m.bH->jA K CN CP k H v m
inductive rW(K:aq)(CU:ak)(k:aB)(H:Hp)(v:V)(m:Ax):Prop
 |mk:∀a dx v0 v1 v2,v= .ref a->H a=L (.ins CU dx<|EI v0 v1 v2)->R3 K k H v0 m.from_->R3 K k H v1 m.to->R3 K k H v2 m.push->rW K CU k H v m
def Av(K:aq)(CU:ak)(k:aB):bE<|au Ax:=λH v m=>(v= .cu/\m=ah)\/ ∃p,m=L p/\rW K CU k H v p
section
variable{K:aq}{CS CN CP CU M:ak}{k:aB}{mg:ax->au aH}{E:XK}{σ:L2.St}{H:Hp}{te:TE}
theorem eO:lD<|i_ K CS k:=λ_ _ _ _ s dm=>by obtain⟨a,dx,v2,v3,v4,v5,v6,e,h,h2,h3,h4,h5,h6⟩:=dm;exact⟨a,dx,v2,v3,v4,v5,v6,e,s.2 _ _ _ _ h,cP _ _ _ _ s.1 h2,cP _ _ _ _ s.1 h3,dw _ _ _ _ s.1 h4,dw _ _ _ _ s.1 h5,dw _ _ _ _ s.1 h6⟩
theorem kS:lD<|jA K CN CP k:=λ_ _ _ _ s dW=>by obtain⟨a,dx,v0,v1,v2,v3,e,h,h0,h1,h2,h3⟩:=dW;exact⟨a,dx,v0,v1,v2,v3,e,s.2 _ _ _ _ h,uT.up s h0,uT.up s h1,cP _ _ _ _ s.1 h2,dw _ _ _ _ s.1 h3⟩
theorem Mm:lD<|rW K CU k:=λ_ _ _ _ s gw=>by obtain⟨a,dx,v0,v1,v2,e,h,h0,h1,h2⟩:=gw;exact⟨a,dx,v0,v1,v2,e,s.2 _ _ _ _ h,cP _ _ _ _ s.1 h0,cP _ _ _ _ s.1 h1,cP _ _ _ _ s.1 h2⟩
theorem Tj:lD<|Av K CU k:=λ_ _ _ _ s h=>h.imp (λz=>z) λju=>by obtain⟨p,e,r⟩:=ju;exact⟨p,e,Mm.up s r⟩
theorem nt_sf(T:Tx K mg CS "Spring" oR)(h:NT M E (i_ K CS k) (L s) σ H te):NT M E (R3 K k) (L s.from_) σ H<|c9 K te "first_point":=gB h λ_ _ mX=>by obtain⟨a,dx,v2,v3,v4,v5,v6,e,h,h2,h3,h4,h5,h6⟩:=mX;exact⟨a,CS,dx,_,_,e,h,T.cl,T.na _ dk,by unfold oX;sleep 1,h2⟩
theorem nt_st(T:Tx K mg CS "Spring" oR)(h:NT M E (i_ K CS k) (L s) σ H te):NT M E (R3 K k) (L s.to) σ H<|c9 K te "second_point":=gB h λ_ _⟨a,dx,v2,v3,v4,v5,v6,e,h,h2,h3,h4,h5,h6⟩=>⟨a,CS,dx,_,_,e,h,T.cl,T.na _ dk,by unfold oX;sleep 1,h3⟩
theorem Ux(T:Tx K mg CS "Spring" oR)(h:NT M E (i_ K CS k) (L s) σ H te):NT M E (RC K k) (L s.stiff) σ H<|c9 K te "stiffness":=gB h λ_ _⟨a,dx,v2,v3,v4,v5,v6,e,h,h2,h3,h4,h5,h6⟩=>⟨a,CS,dx,_,_,e,h,T.cl,T.na _ dk,by unfold oX;sleep 1,h4⟩
theorem nt_sd(T:Tx K mg CS "Spring" oR)(h:NT M E (i_ K CS k) (L s) σ H te):NT M E (RC K k) (L s.damp) σ H<|c9 K te "damping":=gB h λ_ _⟨a,dx,v2,v3,v4,v5,v6,e,h,h2,h3,h4,h5,h6⟩=>⟨a,CS,dx,_,_,e,h,T.cl,T.na _ dk,by unfold oX;sleep 1,h5⟩
theorem nt_sr(T:Tx K mg CS "Spring" oR)(h:NT M E (i_ K CS k) (L s) σ H te):NT M E (RC K k) (L s.rest) σ H<|c9 K te "rest":=gB h λ_ _⟨a,dx,v2,v3,v4,v5,v6,e,h,h2,h3,h4,h5,h6⟩=>⟨a,CS,dx,_,_,e,h,T.cl,T.na _ dk,by unfold oX;sleep 1,h6⟩
theorem Up(T:Tx K mg CN "Span" uU)(h:NT M E (jA K CN CP k) (L m) σ H te):NT M E (lE K CP k) (L m.a) σ H<|c9 K te "first_end":=gB h λ_ _ y13_=>by obtain⟨a,dx,v0,v1,v2,v3,e,h,h0,h1,h2,h3⟩:=y13_;exact⟨a,CN,dx,_,_,e,h,T.cl,T.na _ dk,by unfold z5;sleep 1,h0⟩
theorem Uq(T:Tx K mg CN "Span" uU)(h:NT M E (jA K CN CP k) (L m) σ H te):NT M E (lE K CP k) (L m.b) σ H<|c9 K te "second_end":=gB h λ_ _⟨a,dx,v0,v1,v2,v3,e,h,h0,h1,h2,h3⟩=>⟨a,CN,dx,_,_,e,h,T.cl,T.na _ dk,by unfold z5;sleep 1,h1⟩
theorem nt_nw(T:Tx K mg CN "Span" uU)(h:NT M E (jA K CN CP k) (L m) σ H te):NT M E (R3 K k) (L m.JF) σ H<|c9 K te "way":=gB h λ_ _⟨a,dx,v0,v1,v2,v3,e,h,h0,h1,h2,h3⟩=>⟨a,CN,dx,_,_,e,h,T.cl,T.na _ dk,by unfold z5;sleep 1,h2⟩
theorem Ur(T:Tx K mg CN "Span" uU)(h:NT M E (jA K CN CP k) (L m) σ H te):NT M E (RC K k) (L m.bH) σ H<|c9 K te "length":=gB h λ_ _⟨a,dx,v0,v1,v2,v3,e,h,h0,h1,h2,h3⟩=>⟨a,CN,dx,_,_,e,h,T.cl,T.na _ dk,by unfold z5;sleep 1,h3⟩
theorem nt_ua(T:Tx K mg CU "Push" z_)(h:NT M E (rW K CU k) (L m) σ H te):NT M E (R3 K k) (L m.from_) σ H<|c9 K te "first_arm":=gB h λ_ _ y20_=>by obtain⟨a,dx,v0,v1,v2,e,h,h0,h1,h2⟩:=y20_;exact⟨a,CU,dx,_,_,e,h,T.cl,T.na _ dk,by unfold EI;sleep 1,h0⟩
theorem nt_ub(T:Tx K mg CU "Push" z_)(h:NT M E (rW K CU k) (L m) σ H te):NT M E (R3 K k) (L m.to) σ H<|c9 K te "second_arm":=gB h λ_ _⟨a,dx,v0,v1,v2,e,h,h0,h1,h2⟩=>⟨a,CU,dx,_,_,e,h,T.cl,T.na _ dk,by unfold EI;sleep 1,h1⟩
theorem Ia(T:Tx K mg CU "Push" z_)(h:NT M E (rW K CU k) (L m) σ H te):NT M E (R3 K k) (L m.push) σ H<|c9 K te "force":=gB h λ_ _⟨a,dx,v0,v1,v2,e,h,h0,h1,h2⟩=>⟨a,CU,dx,_,_,e,h,T.cl,T.na _ dk,by unfold EI;sleep 1,h2⟩
theorem zL{fs jI:af (ax×V)}(ne:CP≠CN)(hp:H p=L (.ins CN dx fs))(h:lE K CP k H v m):lE K CP k (aC H p<|.ins CN dx jI) v m:=by
 obtain⟨a,d,v0,v1,v2,e,h,h0,h1,h2⟩:=h;have gZ:a≠p:=λz=>by rw[z,hp] at h;cases h;exact ne J
 have s:cw H (aC H p<|.ins CN dx jI):=cw.aC (by rw[hp];trivial);exact⟨a,d,v0,v1,v2,e,by rw[bJ gZ];exact h,cP.up s h0,cP.up s h1,cP.up s h2⟩
end
def Wv(i j:ag)(l:af ag):ke:=⟨i,j,⟨l.getD 0 0,l.getD 1 0,l.getD 2 0⟩,⟨l.getD 3 0,l.getD 4 0,l.getD 5 0⟩,l.getD 6 0,l.getD 7 0,l.getD 8 0⟩
def R9(K:aq)(k:aB):bE<|af ag:=λH v xs=>yw K (RC K k) H v xs/\xs.length=9
theorem Tr{K:aq}:cY<|R9 K k:=λ_ _ _ _ s h=>⟨Br aI _ _ _ _ s h.1,h.2⟩
def fH:bE ag:=λ_ v n=>v= .int n
theorem iq:cY fH:=λ_ _ _ _ _ h=>h
section
variable{P:cO}{w:World}{K:aq}{mg:ax->au aH}{base:b9}{M CK CB CM CP CS CN CU:ak}
abbrev Vu:dq:=sQ (aO 55) 0
abbrev Vt:dq:=sQ (aO 56) 0
abbrev Vs:dq:=sQ (aO 57) 0
theorem scSI:bF ["self","first","second","numbers"] ["self","first","second","numbers"]<|ba Vu:=fs
abbrev Ox(K:aq)(M CS:ak)(k:aB):Sp:=tL M CS (aE fH (aE fH<|aE (R9 K k) cg)) (i_ K CS k) λx=>L<|Wv x.1 x.2.1 x.2.2.1
theorem ok_sinit{f:ak}{fd:c7}(F:bh K "__init__" "Spring.__init__" Vu f fd)(TC:jB mg)(T:Tx K mg CS "Spring" oR)(k:aB):aD P w K mg base (aQ P w M) 12 f fd ["self","first","second","numbers"]<|Ox K M CS k:=by
 refine F.oc scSI λH Q E hr h=>?_;obtain⟨Hb,p,dx,⟨i,j,l,_⟩,r,rfl,hp,sb,hn,ar4,kk,_⟩:=h;refine ar4.c3 λw1 w2 w3 hi hj uN=>?_;obtain⟨hl,h9⟩:=uN;have hi:w1= .int (i:ae):=hi;have hj:w2= .int (j:ae):=hj;subst hi hj;refine⟨_,(aG (dM (O 0) (O 1) J) (aG (dM (O 0) (O 2) J)<|aG (dM (O 0) (nX qJ J TC.tuple sk<|bz (lX (l_.or xS) (O 3) (gd a_)<|gd a_)) J) (aG (dM (O 0) (nX qJ J TC.tuple sk<|bz (lX (l_.or xS) (O 3) (gd a_)<|gd a_)) J) (aG (dM (O 0) (d4 ji (O 3) a_ λ_ _=>J) J)<|aG (dM (O 0) (d4 ji (O 3) a_ λ_ _=>J) J) (aR<|dM (O 0) (d4 ji (O 3) a_ λ_ _=>J) J))))),?_⟩;obtain⟨a0,a1,a2,a3,a4,a5,a6,a7,a8,rfl⟩:∃a0 a1 a2 a3 a4 a5 a6 a7 a8,l=[a0,a1,a2,a3,a4,a5,a6,a7,a8]:=by
  obtain⟨a0,l0,rfl,g0⟩:=oC h9;obtain⟨a1,l1,rfl,g1⟩:=oC g0;obtain⟨a2,l2,rfl,g2⟩:=oC g1;sleep 3;obtain⟨a3,l3,rfl,g3⟩:=oC g2;sleep 4;obtain⟨a4,l4,rfl,g4⟩:=oC g3;obtain⟨a5,l5,rfl,g5⟩:=oC g4;sleep 3;obtain⟨a6,l6,rfl,g6⟩:=oC g5;sleep 4;obtain⟨a7,l7,rfl,g7⟩:=oC g6;obtain⟨a8,l8,rfl,g8⟩:=oC g7
  cases l8 with
  |nil=>exact⟨a0,a1,a2,a3,a4,a5,a6,a7,a8,J⟩
  |cons x t=>cases g8
 have hv:∀{Hc:Hp},az Hb Hc->NT M E (yw K<|RC K k) (L [a0,a1,a2,a3,a4,a5,a6,a7,a8]) [L<|.ref p,L<|.int (i:ae),L<|.int (j:ae),L w3] Hc (aw 3):=λs=>aj J (Br aI)<|Br aI _ _ _ _ s hl;refine lR (aj (C:=M) (E:=E) (R:=fH) (y:=i) J iq J) J hp T.cl (T.na _ dk) dc λv0 H0 s0 q0 p0=>?_;have q0:v0= .int (i:ae):=q0;subst q0;have b0:=gS (o:=.ins CS dx<|aY "first" (.int (i:ae)) []) sb s0 hn;refine lR (aj (C:=M) (E:=E) (R:=fH) (y:=j) J iq J) J bw T.cl (T.na _ dk) (by show 1<1000;decide) λv1 U s1 q1 p1=>?_;have q1:v1= .int (j:ae):=q1;subst q1;have b1:=gS (o:=.ins CS dx (aY "second" (.int (j:ae))<|aY "first" (.int (i:ae)) [])) b0 s1 hn;refine lR (xw aI (a:=0) (b:=3) (hv b1) (by show 3<=9;decide) (by show¬(0=0/\3=9);decide) dc) J bw T.cl (T.na _ dk) (by show 2<1000;decide) λv2 H2 s2 q2 p2=>?_;have b2:=gS (o:=.ins CS dx<|aY "first_point" v2 (aY "second" (.int (j:ae))<|aY "first" (.int (i:ae)) [])) b1 s2 hn;refine lR (xw aI (a:=3) (b:=6) (hv b2) (by show 6<=9;decide) (by show¬(3=0/\6=9);decide) dc) J bw T.cl (T.na _ dk) (by show 3<1000;decide) λv3 H3 s3 q3 p3=>?_;have b3:=gS (o:=.ins CS dx (aY "second_point" v3<|aY "first_point" v2 (aY "second" (.int (j:ae))<|aY "first" (.int (i:ae)) []))) b2 s3 hn;refine lR (HM aI 6 (hv b3) J) J bw T.cl (T.na _ dk) (by show 4<1000;decide) λv4 H4 s4 q4 p4=>?_;have b4:=gS (o:=.ins CS dx<|aY "stiffness" v4 (aY "second_point" v3<|aY "first_point" v2 (aY "second" (.int (j:ae))<|aY "first" (.int (i:ae)) []))) b3 s4 hn;refine lR (HM aI 7 (hv b4) J) J bw T.cl (T.na _ dk) (by show 5<1000;decide) λv5 H5 s5 q5 p5=>?_;have b5:=gS (o:=.ins CS dx (aY "damping" v5<|aY "stiffness" v4 (aY "second_point" v3<|aY "first_point" v2 (aY "second" (.int (j:ae))<|aY "first" (.int (i:ae)) [])))) b4 s5 hn;refine lR (HM aI 8 (hv b5) J) J bw T.cl (T.na _ dk) (by show 6<1000;decide) λv6 H6 s6 q6 p6=>?_;have t6:cw H6<|aC H6 p (.ins CS dx<|oX (.int (i:ae)) (.int (j:ae)) v2 v3 v4 v5 v6):=cw.aC (by rw[p6];trivial);have t5:cw H5 _:=((cw.aC (by rw[p5];trivial)).trans s6.i.1).trans t6;have t4:cw H4 _:=((cw.aC (by rw[p4];trivial)).trans s5.i.1).trans t5;have t3:cw H3 _:=((cw.aC (by rw[p3];trivial)).trans s4.i.1).trans t4;have t2:cw H2 _:=((cw.aC (by rw[p2];trivial)).trans s3.i.1).trans t3;exact kk _ _ (gS b5 s6 hn) J ⟨p,dx,v2,v3,v4,v5,v6,J,bw,cP.up t2<|vB q2,cP.up t3<|vB q3,dw.up t4 q4,dw.up t5 q5,dw.up t6 q6⟩
theorem scUI:bF ["self","first_arm","second_arm","force"] ["self","first_arm","second_arm","force"]<|ba Vs:=fs
abbrev OC(K:aq)(M CU:ak)(k:aB):Sp:=tL M CU (aE (R3 K k) (aE (R3 K k)<|aE (R3 K k) cg)) (rW K CU k) λx=>L ⟨x.1,x.2.1,x.2.2.1⟩
theorem ok_uinit(F:bh K "__init__" "Push.__init__" Vs f fd)(T:Tx K mg CU "Push" z_)(k:aB):aD P w K mg base (aQ P w M) 12 f fd ["self","first_arm","second_arm","force"]<|OC K M CU k:=by
 refine F.oc scUI λH Q E hr h=>?_;obtain⟨Hb,p,dx,⟨a,b,c,_⟩,r,rfl,hp,sb,hn,ar5,kk,_⟩:=h;refine ar5.c3 λw1 w2 w3 h1 h2 h3=>?_;refine⟨_,(aG (dM (O 0) (O 1) J)<|aG (dM (O 0) (O 2) J) (aR<|dM (O 0) (O 3) J)),?_⟩;refine⟨_,J,_,J,p,CU,dx,_,J,hp,T.cl,T.na _ dk,(by decide),?_⟩;refine⟨_,J,_,J,p,CU,dx,_,J,bw,T.cl,T.na _ dk,(by show 1<1000;decide),?_⟩;refine⟨_,J,_,J,p,CU,dx,_,J,bw,T.cl,T.na _ dk,(by show 2<1000;decide),?_⟩;have b0:=gS (o:=.ins CU dx<|aY "first_arm" w1 []) sb sr hn;have b1:=gS (o:=.ins CU dx (aY "second_arm" w2<|aY "first_arm" w1 [])) b0 sr hn;have b2:=gS (o:=.ins CU dx<|EI w1 w2 w3) b1 sr hn;exact kk _ _ b2 J ⟨p,dx,w1,w2,w3,J,bw,bS.up b2 h1,bS.up b2 h2,bS.up b2 h3⟩
theorem scNI:bF ["self","kind","spring","first_motion","second_motion"] ["self","kind","spring","first_motion","second_motion"]<|ba Vt:=fs
abbrev Ol(K:aq)(M CK CS CM CN CP:ak)(k:aB):Sp:=tL M CN (aE (RK CK k)<|aE (i_ K CS k) (aE (jS K CM k)<|aE (jS K CM k) cg)) (jA K CN CP k) λx=>qE k x.2.1 x.2.2.1 x.2.2.2.1
theorem ok_ninit{f fP:ak}{fd RG:c7}(F:bh K "__init__" "Span.__init__" Vt f fd)(B:BM P w K mg base M CK CB)(T:Tx K mg CN "Span" uU)(TS:Tx K mg CS "Spring" oR)(TP:Tx K mg CP "Point" zH)(ne:CP≠CN)
 (MP:Mk K CP fP) (OP:∀k,aD P w K mg base (aQ P w M) 12 fP RG ["self","kind","motion","r"]<|Oq K M CK CM CP k) (bP:Binds K RG ["self","kind","motion","r"] []) (k:aB):aD P w K mg base (aQ P w M) 16 f fd ["self","kind","spring","first_motion","second_motion"]<|Ol K M CK CS CM CN CP k:=by
 obtain⟨f3,fv,M3,b3,O3⟩:=B.V.aJ.root;refine F.oc scNI λH Q E hr h=>?_;obtain⟨Hb,p,dx,⟨_,sp,ma,mb,_⟩,rr,rfl,hp,sb,hn,ar6,kk,kn⟩:=h;refine ar6.c4 λw1 w2 w3 w4 h1 h2 h3 h4=>?_;refine⟨_,(aG (dM (O 0) (oN MP (OP k) (hr.aV dc) J TP.m bP .nil aA<|bG (O 1) (O 3) (bu<|O 2)) J) (aG (dM (O 0) (oN MP (OP k) (hr.aV dc) J TP.m bP .nil aA<|bG (O 1) (O 4) (bu<|O 2)) J) (aG (dM (O 0) (B.V.sub.c k hr aA (bG (O 1) (bu (bu<|O 0))<|bu (bu<|O 0))) J) (aR<|dM (O 0) (bW (O 1) B.V.aJ.T.cl M3 (O3 k) (hr.aV dc) b3 .nil aA (bz<|B.V.dot.c k hr aA (bG (O 1) (bu<|O 0) (bu<|O 0)))) J)))),?_⟩;have kk:bQ M (jA K CN CP k) Hb (qE k sp ma mb) (λv H'=>∀a,v= .ref a->a=p->Q .cu H') E:=⟨λH' v y s e q a e1 e2=>by subst e1 e2;exact kk H' y s e q,kn⟩;have v0:∀{Hc:Hp},az Hb Hc->NT M E (RK CK k) (L ()) [L<|.ref p,L w1,L w2,L w3,L w4] Hc (aw 1):=λs=>aj J aN<|aN.up s h1;have v1:∀{Hc:Hp},az Hb Hc->NT M E (i_ K CS k) (L sp) [L<|.ref p,L w1,L w2,L w3,L w4] Hc (aw 2):=λs=>aj J eO.m<|eO.m.up s h2;have v2:∀{Hc:Hp},az Hb Hc->NT M E (jS K CM k) (L ma) [L<|.ref p,L w1,L w2,L w3,L w4] Hc (aw 3):=λs=>aj J mG.m<|mG.m.up s h3;have v3:∀{Hc:Hp},az Hb Hc->NT M E (jS K CM k) (L mb) [L<|.ref p,L w1,L w2,L w3,L w4] Hc (aw 4):=λs=>aj J mG.m<|mG.m.up s h4;refine uP (rb:=gc k ma sp.from_) kk sb (zB (t:=L ((),ma,sp.from_,())) (f:=λx=>gc k x.2.1 x.2.2.1)<|aF aN (v0 sb) (aF mG.m (v2 sb)<|aF bS (nt_sf TS<|v1 sb) bR)) J hp T.cl (T.na _ dk) dc λy0 u0 H0 s0 q0 p0 kk=>?_;have c0:=gS (o:=.ins CN dx<|aY "first_end" u0 []) sb s0 hn;have a0:=zL (jI:=aY "first_end" u0 []) ne p0 q0;refine uP (rb:=gc k mb sp.to) kk c0 (zB (t:=L ((),mb,sp.to,())) (f:=λx=>gc k x.2.1 x.2.2.1)<|aF aN (v0 c0) (aF mG.m (v3 c0)<|aF bS (nt_st TS<|v1 c0) bR)) J bw T.cl (T.na _ dk) (by show 1<1000;decide) λy1 u1 U s1 q1 p1 kk=>?_;have c1:=gS (o:=.ins CN dx (aY "second_end" u1<|aY "first_end" u0 [])) c0 s1 hn;have a1:=zL (jI:=aY "second_end" u1<|aY "first_end" u0 []) ne p1<|uT.m.up s1 a0;have e1:=zL (jI:=aY "second_end" u1<|aY "first_end" u0 []) ne p1 q1;have va:NT M E (lE K CP k) (L y0) [L<|.ref p,L w1,L w2,L w3,L w4] (aC U p<|.ins CN dx (aY "second_end" u1<|aY "first_end" u0 []))<|c9 K (aw 0) "first_end":=λH2 Q s k=>⟨_,J,p,CN,dx,_,u0,J,s _ _ bw,T.cl,T.na _ dk,by sleep 1,k.ok _ _ _ sr J<|uT.m.up s a1⟩;have vb:NT M E (lE K CP k) (L y1) [L<|.ref p,L w1,L w2,L w3,L w4] (aC U p<|.ins CN dx (aY "second_end" u1<|aY "first_end" u0 []))<|c9 K (aw 0) "second_end":=λH2 Q s k=>⟨_,J,p,CN,dx,_,u1,J,s _ _ bw,T.cl,T.na _ dk,by sleep 1,k.ok _ _ _ sr J<|uT.m.up s e1⟩;refine uP (rb:=xj k y1.at_ y0.at_) kk c1 (kX (g:=xj k) (r:=L y1.at_) (s:=L y0.at_) (v0 c1) (Uv TP vb)<|Uv TP va) J bw T.cl (T.na _ dk) (by show 2<1000;decide) λy2 u2 H2 s2 q2 p2 kk=>?_;have c2:=gS (o:=.ins CN dx<|aY "way" u2 (aY "second_end" u1<|aY "first_end" u0 [])) c1 s2 hn;have a2:=zL (jI:=aY "way" u2 (aY "second_end" u1<|aY "first_end" u0 [])) ne p2<|uT.m.up s2 a1;have e2:=zL (jI:=aY "way" u2 (aY "second_end" u1<|aY "first_end" u0 [])) ne p2<|uT.m.up s2 e1;have Xb:R3 K k (aC H2 p (.ins CN dx<|aY "way" u2 (aY "second_end" u1<|aY "first_end" u0 []))) u2 y2:=cP _ _ _ _ (cw.aC (by rw[p2];trivial)) q2;have vw:NT M E (R3 K k) (L y2) [L<|.ref p,L w1,L w2,L w3,L w4] (aC H2 p<|.ins CN dx _)<|c9 K (aw 0) "way":=λH3 Q s k=>⟨_,J,p,CN,dx,_,u2,J,s _ _ bw,T.cl,T.na _ dk,by sleep 1,k.ok _ _ _ sr J<|bS.up s Xb⟩;have kk:bQ M (jA K CN CP k) Hb (((mr k y2 y2).bind<|wG k).bind λl=>L ⟨y0,y1,y2,l⟩) (λv H'=>∀a,v= .ref a->a=p->Q .cu H') E:=kk.eq<|by cases(mr k y2 y2).bind (wG k)<;>rfl
 have nd:NT M E (RC K k) (mr k y2 y2) [L<|.ref p,L w1,L w2,L w3,L w4] (aC H2 p<|.ins CN dx _) _:=cT (t:=L ((),y2,y2,())) (f:=λx=>mr k x.2.1 x.2.2.1)<|aF aN (v0 c2) (aF bS vw<|aF bS vw bR);refine uP (rb:=(mr k y2 y2).bind<|wG k) kk c2 (Um (g:=wG k) T5 (v0 c2) nd) J bw T.cl (T.na _ dk) (by show 3<1000;decide) λy3 u3 H3 s3 q3 p3 kk=>?_;have t3:cw H3<|aC H3 p (.ins CN dx<|z5 u0 u1 u2 u3):=cw.aC (by rw[p3];trivial);exact kk.ok _ (.ref p) _ (gS c2 s3 hn) J ⟨p,dx,u0,u1,u2,u3,J,bw,zL ne p3<|uT.m.up s3 a2,zL ne p3<|uT.m.up s3 e2,cP _ _ _ _ (s3.i.1.trans t3) Xb,dw.up t3 q3⟩ p J J
end
end BW
namespace BW
open PySem PySem.Spec PyProof.Rows L2
open Bw (bV cV bg cq rN rT iF ir gc qE j4 lY kF bf)
section
variable{α:Type}{K:aq}{R:bE α}{H:Hp}
inductive fG(R:bE α)(H:Hp)(v:V)(xs:af α):Prop
 |mk:∀p vs,v= .ref p->H p=L (.lst vs)->cf (R H) vs xs->fG R H v xs
theorem mono_ls(m:cY R):cY<|fG R:=λH H' v xs s dm=>by obtain⟨p,vs,e,h,a⟩:=dm;exact⟨p,vs,e,s _ _ h,a.imp λv x=>m H H' v x s⟩
theorem EK(h:fG R H v xs):RL K R H v xs:=let⟨p,vs,e,h,a⟩:=h;⟨p,vs,e,SqL.of h,a⟩
end
section
variable{K:aq}{M CK:ak}{E:XK}{σ:L2.St}{H:Hp}{t0 t1 t2 t3 te:TE}{k:aB}
theorem HQ(h0:NT M E (RK CK k) (L ()) σ H t0)(h1:NT M E (R3 K k) r σ H t1)(h2:NT M E (R3 K k) s σ H t2):NT M E (RC K k) (r.bind λa=>s.bind λb=>g a b) σ H (d_ (N3 K M CK k g) [] E<|aU t0 (aU t1<|aU t2 b8)):=NT.eq (cT<|aF aN h0 (aF bS h1<|aF bS h2 bR))<|by cases r<;>cases s<;>rfl
theorem Ug(h0:NT M E (RK CK k) (L ()) σ H t0)(h1:NT M E (RC K k) r σ H t1)(h2:NT M E (R3 K k) s σ H t2):NT M E (R3 K k) (r.bind λa=>s.bind λb=>g a b) σ H (d_ (N0 K M CK k g) [] E<|aU t0 (aU t1<|aU t2 b8)):=NT.eq (cT<|aF aN h0 (aF aI h1<|aF bS h2 bR))<|by cases r<;>cases s<;>rfl
theorem nt_g31(h0:NT M E (RK CK k) (L ()) σ H t0)(h1:NT M E (R3 K k) r σ H t1)(h2:NT M E (RC K k) s σ H t2):NT M E (R3 K k) (r.bind λa=>s.bind λb=>g a b) σ H (d_ (N2 K M CK k g) [] E<|aU t0 (aU t1<|aU t2 b8)):=NT.eq (cT<|aF aN h0 (aF bS h1<|aF aI h2 bR))<|by cases r<;>cases s<;>rfl
theorem _root_.L2.NT.mapR{R':bE β}{r:au α}{g:α->β}(h:NT C E R r σ H te)(w:∀H v y,R H v y->R' H v (g y)):NT C E R' (r.map g) σ H te:=λU Q s k=>
 h U Q s ⟨λH' v x s' e q=>k.ok H' v _ s' (by rw[e];rfl)<|w _ _ _ q,λH' s' e=>k.no H' s' (by rw[e];rfl)⟩
end
section
variable{P:cO}{w:World}{K:aq}{mg:ax->au aH}{base:b9}{M CK CB CM CP CS CN CU:ak}
abbrev Oz(K:aq)(M CK CS CN CP:ak)(k:aB):Sp:=cU M (aE (RK CK k) (aE (i_ K CS k)<|aE (jA K CN CP k) cg)) (RC K k) λx=>kF k x.2.1 x.2.2.1
theorem scSt:bF ["kind","spring","span"] ["kind","spring","span"] (ba<|aO 59):=fs
theorem UI(F:bh K "stretch" "stretch" (aO 59) f fd)(B:BM P w K mg base M CK CB)(TS:Tx K mg CS "Spring" oR)(TN:Tx K mg CN "Span" uU)(k:aB):aD P w K mg base (aQ P w M) 20 f fd ["kind","spring","span"]<|Oz K M CK CS CN CP k:=by
 obtain⟨f1,bZ,M1,b1,O1⟩:=B.V.aJ.sub;refine F.p3 scSt λH Q E _ sp sn w1 w2 w3 hr h1 h2 h3 kk=>?_;refine⟨_,(aR (bp<|bW (O 0) B.V.aJ.T.cl M1 (O1 k) (hr.aV dc) b1 .nil aA (bK (bu<|O 2) (bu<|O 1)))),?_⟩;exact kk.by (BD h1.1 (aj J aN h1) (Ur TN<|aj J kS.m h3) (nt_sr TS<|aj J eO.m h2))
abbrev Ob(K:aq)(M CK CS CN CP CU:ak)(k:aB):Sp:=cU M (aE (RK CK k) (aE (i_ K CS k)<|aE (jA K CN CP k) cg)) (Av K CU k) λx=>lY k x.2.1 x.2.2.1
theorem ES:bF ["kind","spring","span","e","u","c","f"] ["kind","spring","span"] (ba<|aO 60):=fs
theorem ok_findPush{f f4 fU:ak}{fd ig RH:c7}(F:bh K "find_push" "find_push" (aO 60) f fd)(B:BM P w K mg base M CK CB)(TS:Tx K mg CS "Spring" oR)(TN:Tx K mg CN "Span" uU)(TP:Tx K mg CP "Point" zH)(TU:Tx K mg CU "Push" z_)
 (G4:Gf K mg "stretch" (aO 59) f4 ig ["kind","spring","span"]) (MU:Mk K CU fU) (OU:∀k,aD P w K mg base (aQ P w M) 12 fU RH ["self","first_arm","second_arm","force"]<|OC K M CU k) (bU:Binds K RH ["self","first_arm","second_arm","force"] []) (k:aB):aD P w K mg base (aQ P w M) 24 f fd ["kind","spring","span"]<|Ob K M CK CS CN CP CU k:=by
 have O4:=λk=>UI (P:=P) (w:=w) (base:=base) (CP:=CP) G4.F B TS TN k;have m4:=G4.m;have k4:=G4.F.kp;have b4:=G4.b;obtain⟨f6,fd6,M6,b6,O6⟩:=B.V.aJ.mul;obtain⟨f7,fd7,M7,b7,O7⟩:=B.V.aJ.nms;refine F.p3 ES λH Q E _ sp sn w1 w2 w3 hr h1 h2 h3 kk=>?_;refine⟨_,(aG (dU (dD iY (aX (bu<|O 2)) a_<|cW _) (aR<|bp nY) d7) (aG (bC 3 ES.nd<|B.V.divided.c k hr aA (bG (O 0) (bu<|O 2) (bu<|O 2))) (aG (bC 4 ES.nd (B.V.dot.c k hr aA<|bG (O 0) (O 3) (B.V.sub.c k hr aA (bG (O 0) (bu (bu<|O 2))<|bu (bu<|O 2))))) (aG (bC 5 ES.nd (bW (O 0) B.V.aJ.T.cl M6 (O6 k) (hr.aV dc) b6 .nil aA<|bK (bu<|O 1)<|O 4)) (aG (bC 6 ES.nd (bW (O 0) B.V.aJ.T.cl M7 (O7 k) (hr.aV dc) b7 .nil aA<|bG (bu<|O 1) (cM (O4 k) (hr.aV dc) J m4 k4 b4 .nil aA (bG (O 0) (O 1)<|O 2))<|O 5)) (aR (bp (oN MU (OU k) (hr.aV dc) J TU.m bU .nil aA<|bG (bu (bu<|O 2)) (bu (bu<|O 2))<|B.V.NP.c k hr aA (bG (O 0) (O 6)<|O 3))))))))),?_⟩;have kk:bQ M (Av K CU k) H (lY k sp sn) Q E:=kk;have hk:=h1.1;have Lq:=h3;obtain⟨a,dx,u0,u1,u2,u3,rfl,ha,_,_,_,⟨b,rfl,hb⟩,fl⟩:=Lq;have zz:=Bw.rep_isZero<|cq.bg hk fl;refine⟨_,J,a,CN,dx,_,_,J,ha,TN.cl,TN.na _ dk,by unfold z5;sleep 1,b,_,_,_,J,J,hb,J,_,_,J,J,_,J,d6 (λc=>?_) λc=>?_⟩
 ·have c:(bg k sn.bH).1=0:=dG c
  refine kk.ok _ _ ah sr ?_<|.inl ⟨J,J⟩;unfold lY;rw[aK<|zz.mp c]
 ·have c:¬(bg k sn.bH).1=0:=λz=>c<|dF z
  have kk:=kk.eq (by
   unfold lY
   rw[ay λz=>c<|zz.mpr z])
  have v0:∀{σ:L2.St}{Hc:Hp},σ[0]? =L (L w1)->az H Hc->NT M E (RK CK k) (L ()) σ Hc (aw 0):=λe s=>aj e aN<|aN.up s h1;have v1:∀{σ:L2.St}{Hc:Hp},σ[1]? =L (L w2)->az H Hc->NT M E (i_ K CS k) (L sp) σ Hc (aw 1):=λe s=>aj e eO.m<|eO.m.up s h2;have v2:∀{σ:L2.St}{Hc:Hp},σ[2]? =L (L<|.ref a)->az H Hc->NT M E (jA K CN CP k) (L sn) σ Hc (aw 2):=λe s=>aj e kS.m<|kS.m.up s h3;refine bQ.bindB (σ:=[L w1,L w2,L<|.ref a,ah,ah,ah,ah]) kk sr (nt_g31 (g:=Qq k) (r:=L sn.JF) (s:=L sn.bH) (v0 J sr) (nt_nw TN<|v2 J sr) (Ur TN<|v2 J sr)) λe ue U s1 _ q1 kk=>?_;have n2:NT M E (RC K k) ((xj k sn.b.v sn.a.v).bind λv=>mr k e v) [L w1,L w2,L<|.ref a,L ue,ah,ah,ah] U _:=HQ (g:=mr k) (r:=L e) (s:=xj k sn.b.v sn.a.v) (v0 J s1) (aj (i:=3) J bS q1) (kX (g:=xj k) (r:=L sn.b.v) (s:=L sn.a.v) (v0 J s1) (Uw TP (Uq TN<|v2 J s1))<|Uw TP (Up TN<|v2 J s1));refine bQ.bindB kk s1 n2 λu uu H2 s2 _ q2 kk=>?_;have jq:=s1.trans s2;refine bQ.bindB (σ:=[L w1,L w2,L<|.ref a,L ue,L uu,ah,ah]) kk jq (qX hk (v0 J jq) (nt_sd TS<|v1 J jq)<|aj (i:=4) J aI q2) λc uc H3 s3 _ q3 kk=>?_;have qw:=jq.trans s3;have n4:NT M E (RC K k) (kF k sp sn) [L w1,L w2,L<|.ref a,L ue,L uu,L uc,ah] H3 _:=cT (t:=L ((),sp,sn,())) (f:=λx=>kF k x.2.1 x.2.2.1)<|aF aN (v0 J qw) (aF eO.m (v1 J qw)<|aF kS.m (v2 J qw) bR);have n5:=uZ (g:=Qp k) (r:=L sp.stiff) (s:=kF k sp sn) (t:=L c) noFusedOpp (v0 J qw) ((Ux TS<|v1 J qw).cZ λ_ _ _=>dS hk) (n4.cZ λ_ _ _=>dS hk) ((aj (i:=5) J aI q3).cZ λ_ _ _=>dS hk);refine bQ.bindB kk qw n5 λf uf H4 s4 _ q4 kk=>?_;have tG:=qw.trans s4;have n6:NT M E (R3 K k) (wH k f e) [L w1,L w2,L<|.ref a,L ue,L uu,L uc,L uf] H4 _:=Ug (g:=wH k) (r:=L f) (s:=L e) (v0 J tG) (aj (i:=6) J aI q4) (aj (i:=3) J bS<|bS _ _ _ _ ((s2.trans s3).trans s4) q1);have n7:=zB (D:=CU) (R:=rW K CU k) (f:=λx=>L (⟨x.1,x.2.1,x.2.2.1⟩:Ax))<|aF bS (Ut TP (Up TN<|v2 J tG))<|aF bS (Ut TP (Uq TN<|v2 J tG))<|aF bS n6 bR;refine bQ.gX kk tG ((n7.mapR (R':=Av K CU k) (g:=L) λ_ _ y q=>.inr ⟨y,J,q⟩).eq ?_);show _=(wH k f e).map _
  cases wH k f e<;>rfl
def ox(n:ag)(ss:af ke):Prop:=∀s∈ss,s.one<n/\s.other<n/\s.one≠s.other
abbrev Fw(K:aq)(CK CB CS:ak)(k:aB):gk<|gF×af fu×af ke×gF:=rX (aE (RK CK k) (aE (RL K<|cp K CB k)<|aE (RL K<|i_ K CS k) cg)) λx=>ox x.2.1.length x.2.2.1/\x.2.1.length<=4096/\x.2.2.1.length<=8192
def fS(k:aB)(x:gF×af fu×af ke×gF):au<|af iF:=bf (j4 k {bodies:=x.2.1}) x.2.2.1
abbrev Je(K:aq)(M CK CB CS CN CP:ak)(k:aB):Sp:=cU M (Fw K CK CB CS k) (fG<|jA K CN CP k)<|fS k
theorem EU:bF ["kind","bodies","springs","motions","spans","spring","i"] ["kind","bodies","springs"] (ba<|aO 58):=fs
def Cw(K:aq)(CM:ak)(k:aB)(bs:af fu)(H:Hp)(aW:af<|hU×V):Prop:=∀(i:ag)v,fF aW (eU i)=L v-> ∃m,ir k (bs.getD i default)=L m/\jS K CM k H v m
theorem Cw.same(h:Cw K CM k bs H aW)(s:fO H H'):Cw K CM k bs H' aW:=λi v e=>let⟨m,e1,r⟩:=h i v e;⟨m,e1,mG.up s r⟩
theorem qU{R:bE α}{xs:af α}(m:cY R)(h1:NT M E (RL K R) (L xs) σ H t1)(h2:NT M E fH (L n) σ H t2)(hx:xs[n]? =L x):NT M E R (L x) σ H<|bY (kZ K) t1 t2:=λU Q s k=>by
 refine(h1.at_ s).go λv H2 s2 q=>(h2.at_<|s.trans s2).go λu H3 s3 q3=>?_;obtain⟨p,vs,rfl,hp,ha⟩:=cE m _ _ _ _ s3 q;subst q3;obtain⟨v,hv,r⟩:=ha.sF hx;exact⟨p,vs,n,v,J,J,hp,uz hv,k.ok _ _ _ (s2.trans s3) J r⟩
theorem ok_findSpans{f fM fN:ak}{fd RD RE:c7}(F:bh K "find_spans" "find_spans" (aO 58) f fd)(TS:Tx K mg CS "Spring" oR)(TN:Tx K mg CN "Span" uU)(TM:Tx K mg CM "Motion" xg)
 (MM:Mk K CM fM) (OM:∀k,aD P w K mg base (aQ P w M) 12 fM RD ["self","kind","body"]<|Oh K M CK CB CM k) (bM:Binds K RD ["self","kind","body"] [])
 (MN:Mk K CN fN) (ON:∀k,aD P w K mg base (aQ P w M) 16 fN RE ["self","kind","spring","first_motion","second_motion"]<|Ol K M CK CS CM CN CP k) (bN:Binds K RE ["self","kind","spring","first_motion","second_motion"] []) (k:aB):aD P w K mg base (aQ P w M) 20 f fd ["kind","bodies","springs"]<|Je K M CK CB CS CN CP k:=by
 refine F.oc EU λH Q E hr h=>?_;sleep 3;obtain⟨⟨_,bs,ss,_⟩,⟨ar7,km,oH,Bl⟩,kk⟩:=h;sleep 4;refine ar7.c3 λw1 w2 w3 h1 h2 h3=>?_
 refine⟨_,(aG (bC 3 EU.nd UQ) (aG (bC 4 EU.nd<|gr vm) (aG (nZ mI J (jm<|O 2) (eC 5 EU.nd)
  (aG (nZ mI J (pi_tup<|fV (bK (bu<|O 5) (bu<|O 5))) (eC 6 EU.nd)
    (aR (dU (pt_cmp (pc_dnotin (lP hr) (O 6)<|O 3)) (aR<|U0 (lP hr) (O 3) (O 6) (oN MM (OM k) (hr.aV dc) J TM.m bM .nil aA (bK (O 0)<|d4 kr (O 1) (O 6) λ_ _=>J)) J) d7)))
  (aR<|qp (vp wx CT CV Bt (O 4)<|bz (oN MN (ON k) (hr.aV dc) J TN.m bN .nil aA<|dC (O 0) (bG (O 5) (oK (lP hr) (O 3) (bu<|O 5) λ_ _=>J) (oK (lP hr) (O 3) (bu<|O 5) λ_ _=>J)))))))
  (aR (bp<|O 4))))),?_⟩
 have oH:bs.length<=4096:=oH;have Bl:ss.length<=8192:=Bl;have km:ox bs.length ss:=km;obtain⟨p2,bv,rfl,lO,a2⟩:=id h2;obtain⟨p3,sv,rfl,sO,a3⟩:=h3;refineλd hd=>⟨eM _,λl hl=>?_⟩;have G':l≠d:=λz=>by rw[z,bw] at hl;cases hl
 have DO:H l=ah:=by rw[bJ G'] at hl;exact hl
 refine⟨_,J,p3,J,⟨sv,(az.new hd).trans (az.new hl)|>.seq sO⟩,AY (K:=K) (xs:=sv) (λj aS H'=>E5 λ(x5 x6:au V)(aW:af (hU×V))(d8:af V)(zs:af iF)=>A8 (aS=[L w1,L<|.ref p2,L<|.ref p3,L<|.ref d,L<|.ref l,x5,x6]) (az H H') (H' d=L (.dK aW)) (Cw K CM k bs H' aW) (H' l=L (.lst d8)) (cf (jA K CN CP k H') d8 zs) (bf (j4 k {bodies:=bs}) (ss.take j)=L zs)<|aW.length<=2*j)
  ⟨ah,ah,[],[],[],J,(az.new hd).trans<|az.new hl,by rw[bJ<|dB G',bw],(λi v e=>nomatch e),bw,ck,by rw[m9];rfl,eM _⟩ (λj aS H' _ gw=>by obtain⟨x5,x6,aW,d8,zs,e,sm,q⟩:=gw;exact sm.seq sO) (λj x aS H' hx I=>?_) λaS H' I=>?_⟩
 ·obtain⟨x5,x6,aW,d8,zs,rfl,sm,hd',mok,hl',aa,ez,hkl⟩:=I
  obtain⟨sp,iL,rsp⟩:=a3.get hx;have hj:j<ss.length:=by
   rcases FO j ss.length with z|z
   ·exact z
   ·rw[Cr z] at iL;cases iL
  have zd:=j' iL;obtain⟨Fb,Fd,so3⟩:=km sp zd;obtain⟨a,dx,v2,v3,v4,v5,v6,rfl,ha0,_⟩:=id rsp;have ha:=sm _ _ ha0;refine⟨_,J,a,CS,dx,_,_,J,ha,TS.cl,TS.na _ dk,by unfold oX;sleep 1,_,J,a,CS,dx,_,_,J,ha,TS.cl,TS.na _ dk,by unfold oX;sleep 1,by show 2<=bI;decide,λT hT=>⟨T,J,⟨_,cH.of bw⟩,?_⟩⟩;have sT:az H' (aC H' T<|.tup [.int (sp.one:ae),.int (sp.other:ae)]):=az.new hT;refine for_tup (K:=K) (xs:=[.int (sp.one:ae),.int (sp.other:ae)]) (λj2 JN lC=>E2 λ(x6:au V)(aW:af (hU×V))=>Ph (JN=[L w1,L<|.ref p2,L<|.ref p3,L<|.ref d,L<|.ref l,L<|.ref a,x6]) (az H lC) (lC T=L (.tup [.int (sp.one:ae),.int (sp.other:ae)])) (lC d=L (.dK aW)) (Cw K CM k bs lC aW) (lC l=L (.lst d8)) (cf (jA K CN CP k lC) d8 zs) ((1<=j2->(fF aW<|eU (sp.one:ae)).isSome=ao)) ((2<=j2->(fF aW<|eU (sp.other:ae)).isSome=ao))<|aW.length<=2*j+j2)
   ⟨x6,aW,J,sm.trans sT,bw,sT _ _ hd',mok.same sT.i,sT _ _ hl',aa.imp λv x=>kS.m _ _ _ _ sT,λz=>absurd z dc,λz=>absurd z dc,om⟩
   (λj2 JN lC _ dW=>by obtain⟨x6,aW,e,sm,hT,q⟩:=dW;exact cH.of hT) (λj2 xi JN lC hxi I2=>?_) λJN lC I2=>?_
  ·obtain⟨x6,aW,rfl,dP,wV,pS,mok2,ij,aa2,z1,z2,hkl2⟩:=I2
   obtain⟨n,rfl,hn,hnn⟩:∃n:ag,xi= .int (n:ae)/\n<bs.length/\((j2=0/\n=sp.one)\/(j2=1/\n=sp.other)):=by
    match j2,hxi with
    |0,e=>cases e;exact⟨_,J,Fb,.inl ⟨J,J⟩⟩
    |1,e=>cases e;exact⟨_,J,Fd,.inr ⟨J,J⟩⟩
   have hb:bs[n]? =L (bs.getD n default):=by simp[m7,hn]
   refine⟨_,J,_,J,d,_,J,o9.k (k:=eU (n:ae)) pS,_,J,?_⟩;have d5:∀(D2:af<|hU×V)(H5:Hp),(∀m:ag,(fF aW<|eU (m:ae)).isSome=ao->(fF D2<|eU (m:ae)).isSome=ao)->(fF D2<|eU (n:ae)).isSome=ao->(1<=j2+1->(fF D2<|eU (sp.one:ae)).isSome=ao)/\(2<=j2+1->(fF D2<|eU (sp.other:ae)).isSome=ao):=λD2 H5 h1 h2=>by
    rcases hnn with⟨e1,e2⟩|⟨e1,e2⟩
    ·subst e1 e2
     exact⟨λ_=>h2,λz=>absurd z dc⟩
    ·subst e1 e2
     exact⟨λ_=>h1 _ (z1 dc),λ_=>h2⟩
   cases hv:fF aW (eU (n:ae)) with
   |none=>
    refine jJ ?_;have nb:NT M E (cp K CB k) (L<|bs.getD n default) [L w1,L<|.ref p2,L<|.ref p3,L<|.ref d,L<|.ref l,L<|.ref a,L<|.int (n:ae)] lC (bY (kZ K) (aw 1)<|aw 6):=qU cD (aj J (cE cD)<|cE cD _ _ _ _ dP h2) (aj J iq J) hb;have nm:=zB (D:=CM) (R:=jS K CM k) (t:=L ((),bs.getD n default,())) (f:=λx=>ir k x.2.1)<|aF aN (aj (i:=0) J aN<|aN.up dP h1)<|aF cD nb bR;refine nm lC _ sr ⟨λH4 v m s4 em q=>?_,λH4 s4 em=>kk.no H4 (dP.trans s4)<|Bw.BV (a:=sp) ?_ zd⟩
    ·have em:ir k (bs.getD n default)=L m:=em
     have Sl:=s4 _ _ pS
     refine⟨_,J,_,J,d,_,J,Ae.k (k:=eU (n:ae)) Sl (wq hkl2 (by have:j2<=1:=by lia
                                                              show 2*j+j2<2^24
                                                              lia)),?_⟩
     have si:fO H4<|aC H4 d (.dK<|i8 aW (eU (n:ae)) v):=fO.aC (by rw[Sl];trivial);have td:T≠d:=eJ wV pS (by intro z;cases z);have ldd:l≠d:=G';refine⟨L<|.int (n:ae),i8 aW (eU (n:ae)) v,J,λb o e=>?_,by rw[bJ td];exact s4 _ _ wV,bw,λi u e=>?_,by rw[bJ ldd];exact s4 _ _ ij,aa2.imp λv x r=>kS _ _ _ _ (s4.i.trans si) r,(d5 _ H4 (λm hm=>?_) ?_).1,(d5 _ H4 (λm hm=>?_) ?_).2,?_⟩
     ·rw[bJ<|dy e hd]
      exact s4 _ _<|dP _ _ e
     ·rw[B9] at e
      by_cases c:(eU (i:ae):hU)=eU (n:ae)
      ·rw[aK c] at e
       cases e
       have c:i=n:=by cases c;rfl
       subst c;exact⟨m,em,mG.up si q⟩
      ·rw[ay c] at e
       obtain⟨m',e1,r⟩:=mok2 i u e;exact⟨m',e1,mG _ _ _ _ (s4.i.trans si) r⟩
     ·rw[B9];split
      ·rfl
      ·exact hm
     ·rw[B9,aK J];rfl
     ·rw[B9];split
      ·rfl
      ·exact hm
     ·rw[B9,aK J];rfl
     ·rw[putK_new v hv,iT]
      show aW.length+1<=_;omega
    ·have em:ir k (bs.getD n default)=ah:=em
     show(ir k<|bs.getD sp.one default).bind _=ah;rcases hnn with⟨_,e2⟩|⟨_,e2⟩
     ·rw[<-e2,em];rfl
     ·cases ir k (bs.getD sp.one default) with
      |none=>rfl
      |some m1=>
       show(ir k<|bs.getD sp.other default).bind _=ah;rw[<-e2,em];rfl
   |some v0=>
    refine pX ?_;have hs:(fF aW<|eU (n:ae)).isSome=ao:=by rw[hv];rfl
    exact⟨L<|.int (n:ae),aW,J,dP,wV,pS,mok2,ij,aa2,(d5 aW lC (λ_ h=>h) hs).1,(d5 aW lC (λ_ h=>h) hs).2,om⟩
  ·obtain⟨x6,aW,rfl,dP,wV,pS,mok2,ij,aa2,z1,z2,hkl2⟩:=I2
   have z1:=z1 (by show 1<=2;decide);have z2:=z2 (by show 2<=2;decide);obtain⟨u1,e1⟩:=Option.isSome_iff_exists.mp z1;obtain⟨u2,e2⟩:=Option.isSome_iff_exists.mp z2;sleep 3;obtain⟨m1,em1,rm1⟩:=mok2 _ _ e1;sleep 4;obtain⟨m2,em2,rm2⟩:=mok2 _ _ e2;refine⟨_,J,.inl ⟨J,_,SqL.of ij⟩,?_⟩;have rsp2:=eO.m.up dP rsp;have sI:=dP _ _ ha0;have g1:NT M E (jS K CM k) (L m1) [L w1,L<|.ref p2,L<|.ref p3,L<|.ref d,L<|.ref l,L<|.ref a,x6] lC (Fl (aw 3)<|c9 K (aw 5) "first"):=λU Q s k=>⟨_,J,_,J,a,CS,dx,_,_,J,s _ _ sI,TS.cl,TS.na _ dk,by unfold oX;sleep 1,d,u1,J,by rw[<-e1];exact o9.k (k:=eU (sp.one:ae))<|s _ _ pS,k.ok _ _ _ sr J<|mG.m.up s rm1⟩;have g2:NT M E (jS K CM k) (L m2) [L w1,L<|.ref p2,L<|.ref p3,L<|.ref d,L<|.ref l,L<|.ref a,x6] lC (Fl (aw 3)<|c9 K (aw 5) "second"):=λU Q s k=>⟨_,J,_,J,a,CS,dx,_,_,J,s _ _ sI,TS.cl,TS.na _ dk,by unfold oX;sleep 1,d,u2,J,by rw[<-e2];exact o9.k (k:=eU (sp.other:ae))<|s _ _ pS,k.ok _ _ _ sr J<|mG.m.up s rm2⟩;have ns:=zB (D:=CN) (R:=jA K CN CP k) (t:=L ((),sp,m1,m2,())) (f:=λx=>qE k x.2.1 x.2.2.1 x.2.2.2.1) (aF aN (aj (i:=0) J aN<|aN.up dP h1)<|aF eO.m (aj (i:=5) J eO.m rsp2) (aF mG.m g1<|aF mG.m g2 bR));have es:j4 k {bodies:=bs} sp=qE k sp m1 m2:=by
    show(ir k<|bs.getD sp.one default).bind (λm1=>(ir k<|bs.getD sp.other default).bind λm2=>qE k sp m1 m2)=_;rw[em1,em2];rfl
   refine ns lC _ sr ⟨λH6 v sn s6 en q=>?_,λH6 s6 en=>kk.no H6 (dP.trans s6)<|Bw.BV (a:=sp) (es.trans en) zd⟩;have Sw:=s6 _ _ ij;have dJ:d8.length<=8192:=by rw[aa2.bH,Bw.iQ ez,kJ];omega
   refine⟨l,d8,v,J,J,Sw,wq dJ dc,?_⟩;have si:fO H6<|aC H6 l (.lst<|d8++[v]):=fO.aC (by rw[Sw];trivial);refine⟨L<|.ref a,x6,aW,d8++[v],zs++[sn],J,λb o e=>?_,by rw[bJ<|dB G'];exact s6 _ _ pS,mok2.same<|s6.i.trans si,bw,(aa2.imp λv x r=>kS _ _ _ _ (s6.i.trans si) r).snoc<|kS.up si q,?_,om⟩
   ·rw[bJ<|dy e DO]
    exact s6 _ _<|dP _ _ e
   ·rw[BX iL,ez,es,show qE k sp m1 m2=L sn from en]
    rfl
 ·obtain⟨x5,x6,aW,d8,zs,rfl,sm,hd',mok,hl',aa,ez,_⟩:=I
  rw[a3.bH,mi] at ez;exact⟨_,J,kk.ok H' _ zs sm ez ⟨l,d8,J,hl',aa⟩⟩
end
end BW
namespace BW
open PySem PySem.Spec PyProof.Rows L2
open Bw (bV cV bg cq rN rT iF ir gc qE j4 lY kF bf lT)
def gE(a:ak)(H H':Hp):Prop:=∀c o,H c=L o->c≠a->H' c=L o
theorem gE.base(s:gE a H H')(sb:az Hb H)(hn:Hb a=ah):az Hb H':=λc o e=>s c o (sb _ _ e)<|dy e hn
theorem gE.trans(s:gE a H U)(t:gE a U H2):gE a H H2:=λc o e n=>t c o (s c o e n) n
theorem _root_.L2.az.x(s:az H H'):gE a H H':=λc o e _=>s _ _ e
section
variable{f g:ax}{v x:V}{r:af (ax×V)}
theorem putF_nil:aY f v []=[(f,v)]:=J
theorem putF_eq:aY f v ((f,x)::r)=(f,v)::r:=aK J
theorem putF_ne(h:¬g=f):aY f v ((g,x)::r)=(g,x)::aY f v r:=ay h
end
section
variable{v0 v1 v2 v3 v4 v5 v6 v:V}
theorem uB:fR v0 v1 v2 v3 v4 v5 v6=([("by_weight",v0),("by_moment",v1),("place",v2),("turn",v3),("momentum",v4),("spin",v5),("force",v6)]:af<|ax×V):=by unfold fR;sleep 2
theorem put_mo:aY "momentum" v (fR v0 v1 v2 v3 v4 v5 v6)=fR v0 v1 v2 v3 v v5 v6:=by rw[uB,uB];sleep 2
theorem put_sp:aY "spin" v (fR v0 v1 v2 v3 v4 v5 v6)=fR v0 v1 v2 v3 v4 v v6:=by rw[uB,uB];sleep 2
theorem put_pl:aY "place" v (fR v0 v1 v2 v3 v4 v5 v6)=fR v0 v1 v v3 v4 v5 v6:=by rw[uB,uB];sleep 2
theorem put_tu:aY "turn" v (fR v0 v1 v2 v3 v4 v5 v6)=fR v0 v1 v2 v v4 v5 v6:=by rw[uB,uB];sleep 2
theorem Gj:(fR v0 v1 v2 v3 v4 v5 v6).length<1000:=by rw[uB];show 7<1000;decide
end
section
variable{K:aq}{M CB:ak}{k:aB}{mg:ax->au aH}{E:XK}{σ:L2.St}{Hc:Hp}{te:TE}{a:ak}{b:fu}{D:Ends}{i:ag}{rb:au dR}{rq:au uk}
theorem Js(TB:iU K mg CB)(h:NT M E (R3 K k) rb σ Hc te)(hv:σ[i]? =L (L<|.ref a))(hb:cp K CB k Hc (.ref a) b)(no:∀U,az Hc U->rb=ah->E (.ref M) ah U)
 (ok:∀y H2,rb=L y->gE a Hc H2->cp K CB k H2 (.ref a) {b with momentum:=y}->D.nx σ H2):xN K (aw i) te "momentum" D σ Hc:=by
 refine h Hc _ sr ⟨λU v y s e q=>?_,no⟩;obtain⟨a',dx,v0,v1,v2,v3,v4,v5,v6,ea,ha,h0,h1,h2,h3,h4,h5,h6⟩:=cD.up s hb
 cases ea
 have t:cw U<|aC U a (.ins CB dx<|fR v0 v1 v2 v3 v v5 v6):=cw.aC (by rw[ha];trivial);refine⟨_,hv,a,CB,dx,_,J,ha,TB.cl,TB.HC,Gj,?_⟩;rw[put_mo];exact ok y _ e (λc o e1 n=>by rw[bJ n];exact s _ _ e1) ⟨a,dx,v0,v1,v2,v3,v,v5,v6,J,bw,dw.up t h0,cP.up t h1,cP.up t h2,qQ.up t h3,cP.up t q,cP.up t h5,cP.up t h6⟩
theorem WG(TB:iU K mg CB)(h:NT M E (R3 K k) rb σ Hc te)(hv:σ[i]? =L (L<|.ref a))(hb:cp K CB k Hc (.ref a) b)(no:∀U,az Hc U->rb=ah->E (.ref M) ah U)
 (ok:∀y H2,rb=L y->gE a Hc H2->cp K CB k H2 (.ref a) {b with spin:=y}->D.nx σ H2):xN K (aw i) te "spin" D σ Hc:=by
 refine h Hc _ sr ⟨λU v y s e q=>?_,no⟩;obtain⟨a',dx,v0,v1,v2,v3,v4,v5,v6,ea,ha,h0,h1,h2,h3,h4,h5,h6⟩:=cD.up s hb
 cases ea
 have t:cw U<|aC U a (.ins CB dx<|fR v0 v1 v2 v3 v4 v v6):=cw.aC (by rw[ha];trivial);refine⟨_,hv,a,CB,dx,_,J,ha,TB.cl,TB.ns,Gj,?_⟩;rw[put_sp];exact ok y _ e (λc o e1 n=>by rw[bJ n];exact s _ _ e1) ⟨a,dx,v0,v1,v2,v3,v4,v,v6,J,bw,dw.up t h0,cP.up t h1,cP.up t h2,qQ.up t h3,cP.up t h4,cP.up t q,cP.up t h6⟩
theorem WE(TB:iU K mg CB)(h:NT M E (R3 K k) rb σ Hc te)(hv:σ[i]? =L (L<|.ref a))(hb:cp K CB k Hc (.ref a) b)(no:∀U,az Hc U->rb=ah->E (.ref M) ah U)
 (ok:∀y H2,rb=L y->gE a Hc H2->cp K CB k H2 (.ref a) {b with at_:=y}->D.nx σ H2):xN K (aw i) te "place" D σ Hc:=by
 refine h Hc _ sr ⟨λU v y s e q=>?_,no⟩;obtain⟨a',dx,v0,v1,v2,v3,v4,v5,v6,ea,ha,h0,h1,h2,h3,h4,h5,h6⟩:=cD.up s hb
 cases ea
 have t:cw U<|aC U a (.ins CB dx<|fR v0 v1 v v3 v4 v5 v6):=cw.aC (by rw[ha];trivial);refine⟨_,hv,a,CB,dx,_,J,ha,TB.cl,TB.np,Gj,?_⟩;rw[put_pl];exact ok y _ e (λc o e1 n=>by rw[bJ n];exact s _ _ e1) ⟨a,dx,v0,v1,v,v3,v4,v5,v6,J,bw,dw.up t h0,cP.up t h1,cP.up t q,qQ.up t h3,cP.up t h4,cP.up t h5,cP.up t h6⟩
theorem WH(TB:iU K mg CB)(h:NT M E (R4 K k) rq σ Hc te)(hv:σ[i]? =L (L<|.ref a))(hb:cp K CB k Hc (.ref a) b)(no:∀U,az Hc U->rq=ah->E (.ref M) ah U)
 (ok:∀y H2,rq=L y->gE a Hc H2->cp K CB k H2 (.ref a) {b with turn:=y}->D.nx σ H2):xN K (aw i) te "turn" D σ Hc:=by
 refine h Hc _ sr ⟨λU v y s e q=>?_,no⟩;obtain⟨a',dx,v0,v1,v2,v3,v4,v5,v6,ea,ha,h0,h1,h2,h3,h4,h5,h6⟩:=cD.up s hb
 cases ea
 have t:cw U<|aC U a (.ins CB dx<|fR v0 v1 v2 v v4 v5 v6):=cw.aC (by rw[ha];trivial);refine⟨_,hv,a,CB,dx,_,J,ha,TB.cl,TB.nt,Gj,?_⟩;rw[put_tu];exact ok y _ e (λc o e1 n=>by rw[bJ n];exact s _ _ e1) ⟨a,dx,v0,v1,v2,v,v4,v5,v6,J,bw,dw.up t h0,cP.up t h1,cP.up t h2,qQ.up t q,cP.up t h4,cP.up t h5,cP.up t h6⟩
theorem Dk(s:gE a H H')(ha:cp K CB k H (.ref a) b)(n:c≠a)(h:cp K CB k H (.ref c) d):cp K CB k H' (.ref c) d:=by
 obtain⟨a',dx,v0,v1,v2,v3,v4,v5,v6,ea,hc,h0,h1,h2,h3,h4,h5,h6⟩:=h
 cases ea
 obtain⟨a',pQ,u0,u1,u2,u3,u4,u5,u6,ea,hA,_⟩:=ha
 cases ea
 have t:cw H H':=⟨λz xs e=>s _ _ e<|eJ e hA (by intro q;cases q),λz o u e=>s _ _ e<|eJ e hA (by intro q;cases q)⟩;exact⟨c,dx,v0,v1,v2,v3,v4,v5,v6,J,s _ _ hc n,dw.up t h0,cP.up t h1,cP.up t h2,qQ.up t h3,cP.up t h4,cP.up t h5,cP.up t h6⟩
end
section
variable{P:cO}{w:World}{K:aq}{mg:ax->au aH}{base:b9}{M CK CB CU:ak}
inductive N_(K:aq)(M CK CB CU:ak)(k:aB)(vs:af V)(H:Hp)(Q:VK)(E:XK):Prop
 |mk:∀(Hb:Hp)(wk wp wd:V)(a c:ak)(p:Ax)(A B:fu)(dt:ag),vs=[wk,wp,.ref a,.ref c,wd]->az Hb H->Hb a=ah->Hb c=ah->a≠c->RK CK k Hb wk ()->rW K CU k Hb wp p->RC K k Hb wd dt->cp K CB k H (.ref a) A->cp K CB k H (.ref c) B->((∀H' A' B',(∀x o,H x=L o->x≠a->x≠c->H' x=L o)->AA k dt p.from_ p.push A=L A'->C6 k dt p.to p.push B=L B'->cp K CB k H' (.ref a) A'->cp K CB k H' (.ref c) B'->Q .cu H'))->(∀H',az Hb H'->(AA k dt p.from_ p.push A=ah\/C6 k dt p.to p.push B=ah)->E (.ref M) ah H')->N_ K M CK CB CU k vs H Q E
theorem scDP:bF ["kind","push","first","second","dt"] ["kind","push","first","second","dt"] (ba<|aO 63):=fs
theorem ok_doPush{f:ak}{fd:c7}(F:bh K "do_push" "do_push" (aO 63) f fd)(B:BM P w K mg base M CK CB)(TU:Tx K mg CU "Push" z_)(k:aB):aD P w K mg base (aQ P w M) 20 f fd ["kind","push","first","second","dt"]<|N_ K M CK CB CU k:=by
 have m1:=B.V.against;have m2:=B.V.along;have m3:=B.V.moment;have TB:=B.TB;refine F.qi scDP (λvs H Q E h=>?_) λcj A bA s H vs Q E hr h=>?_
 ·obtain⟨Hb,wk,wp,wd,a,c,p,A,B,dt,rfl,_⟩:=h
  rfl
 ·obtain⟨Hb,wk,wp,wd,a,c,p,A,B,dt,rfl,sb,ha,hc,Ba,hk,hp,hd,hA,hB,kk,kn⟩:=h
  refine⟨_,(aG (dM (O 2) (m1.c k hr aA<|dC (O 0) (bG (bu<|O 2) (O 4) (bu<|O 1))) J) (aG (dM (O 2) (m1.c k hr aA (dC (O 0) (bG (bu<|O 2) (O 4)<|m3.c k hr aA (bG (O 0) (bu<|O 1) (bu<|O 1))))) J) (aG (dM (O 3) (m2.c k hr aA<|dC (O 0) (bG (bu<|O 3) (O 4) (bu<|O 1))) J) (aR<|dM (O 3) (m2.c k hr aA (dC (O 0) (bG (bu<|O 3) (O 4)<|m3.c k hr aA (bG (O 0) (bu<|O 1) (bu<|O 1))))) J)))),?_⟩;have v0:∀{Hc:Hp},az Hb Hc->NT M E (RK CK k) (L ()) [L wk,L wp,L<|.ref a,L<|.ref c,L wd] Hc (aw 0):=λs=>aj J aN<|aN.up s hk;have v1:∀{Hc:Hp},az Hb Hc->NT M E (rW K CU k) (L p) [L wk,L wp,L<|.ref a,L<|.ref c,L wd] Hc (aw 1):=λs=>aj J Mm.m<|Mm.m.up s hp;have v4:∀{Hc:Hp},az Hb Hc->NT M E (RC K k) (L dt) [L wk,L wp,L<|.ref a,L<|.ref c,L wd] Hc (aw 4):=λs=>aj J aI<|aI.up s hd;have v2:∀{Hc:Hp}{A:fu},cp K CB k Hc (.ref a) A->NT M E (cp K CB k) (L A) [L wk,L wp,L<|.ref a,L<|.ref c,L wd] Hc (aw 2):=λh=>aj J cD h;have v3:∀{Hc:Hp}{A:fu},cp K CB k Hc (.ref c) A->NT M E (cp K CB k) (L A) [L wk,L wp,L<|.ref a,L<|.ref c,L wd] Hc (aw 3):=λh=>aj J cD h;refine Js TB (zA (r:=L A.momentum) (c:=L dt) (s:=L p.push) (v0 sb) (uX TB<|v2 hA) (v4 sb) (Ia TU<|v1 sb)) J hA (λU s1 e=>kn U (sb.trans s1)<|.inl ?_) λy1 U e1 x1 uJ=>?_
  ·have e:yx k dt p.push A.momentum=ah:=e
   unfold AA;rw[e];rfl
  have e1:yx k dt p.push A.momentum=L y1:=e1;have oS:=x1.base sb ha;have Lv:=Dk x1 hA (dB Ba) hB;have n1:=kX (g:=r8 k) (r:=L p.from_) (s:=L p.push) (v0 oS) (nt_ua TU<|v1 oS) (Ia TU<|v1 oS);refine WG TB (zA (r:=L A.spin) (c:=L dt) (s:=r8 k p.from_ p.push) (v0 oS) (By (b:={A with momentum:=y1}) TB<|v2 uJ) (v4 oS) n1) J uJ (λH2 s2 e=>kn H2 (oS.trans s2)<|.inl ?_) λy2 H2 e2 x2 A_=>?_
  ·unfold AA
   rw[e1]
   cases em:r8 k p.from_ p.push with
   |none=>rfl
   |some t=>rw[em] at e;show(yx k dt t A.spin).map _=ah;rw[show yx k dt t A.spin=ah from e];rfl
  have eA:AA k dt p.from_ p.push A=L {A with momentum:=y1,spin:=y2}:=by
   unfold AA;rw[e1]
   cases em:r8 k p.from_ p.push with
   |none=>rw[em] at e2;cases e2
   |some t=>rw[em] at e2;show(yx k dt t A.spin).map _=_;rw[show yx k dt t A.spin=L y2 from e2];rfl
  have qy:=x2.base oS ha;have DH:=Dk x2 uJ (dB Ba) Lv;refine Js TB (zA (r:=L B.momentum) (c:=L dt) (s:=L p.push) (v0 qy) (uX TB<|v3 DH) (v4 qy) (Ia TU<|v1 qy)) J DH (λH3 s3 e=>kn H3 (qy.trans s3)<|.inr ?_) λy3 H3 e3 x3 Lw=>?_
  ·have e:ja k dt p.push B.momentum=ah:=e
   unfold C6;rw[e];rfl
  have e3:ja k dt p.push B.momentum=L y3:=e3;have qA:=x3.base qy hc;have GV:=Dk x3 DH Ba A_;have n3:=kX (g:=r8 k) (r:=L p.to) (s:=L p.push) (v0 qA) (nt_ub TU<|v1 qA) (Ia TU<|v1 qA);refine WG TB (zA (r:=L B.spin) (c:=L dt) (s:=r8 k p.to p.push) (v0 qA) (By (b:={B with momentum:=y3}) TB<|v3 Lw) (v4 qA) n3) J Lw (λH4 s4 e=>kn H4 (qA.trans s4)<|.inr ?_) λy4 H4 e4 x4 GX=>?_
  ·unfold C6
   rw[e3]
   cases em:r8 k p.to p.push with
   |none=>rfl
   |some t=>rw[em] at e;show(ja k dt t B.spin).map _=ah;rw[show ja k dt t B.spin=ah from e];rfl
  have eB:C6 k dt p.to p.push B=L {B with momentum:=y3,spin:=y4}:=by
   unfold C6;rw[e3]
   cases em:r8 k p.to p.push with
   |none=>rw[em] at e4;cases e4
   |some t=>rw[em] at e4;show(ja k dt t B.spin).map _=_;rw[show ja k dt t B.spin=L y4 from e4];rfl
  exact kk H4 _ _ (λx o e n1 n2=>x4 x o (x3 x o (x2 x o (x1 x o e n1) n1) n2) n2) eA eB (Dk x4 Lw Ba GV) GX
inductive Oj(K:aq)(M CK CB:ak)(k:aB)(vs:af V)(H:Hp)(Q:VK)(E:XK):Prop
 |mk:∀(Hb:Hp)(wk wd:V)(a:ak)(A:fu)(dt:ag),vs=[wk,.ref a,wd]->az Hb H->Hb a=ah->RK CK k Hb wk ()->RC K k Hb wd dt->cp K CB k H (.ref a) A->((∀H' A',gE a H H'->lT k dt A=L A'->cp K CB k H' (.ref a) A'->Q .cu H'))->(∀H',az Hb H'->lT k dt A=ah->E (.ref M) ah H')->Oj K M CK CB k vs H Q E
theorem VC:bF ["kind","body","dt","g"] ["kind","body","dt"] (ba<|aO 64):=fs
theorem ok_move{f:ak}{fd:c7}(F:bh K "move" "move" (aO 64) f fd)(B:BM P w K mg base M CK CB)(hH:∃a,mg "HALF"=L (.ref a)/\ ∀H,cH K H a [.int 1,.int (-1)])(hO:∃a,mg "ONE"=L (.ref a)/\ ∀H,cH K H a [.int 1,.int 0])(k:aB):aD P w K mg base (aQ P w M) 20 f fd ["kind","body","dt"]<|Oj K M CK CB k:=by
 obtain⟨f7,fd7,M7,b7,O7⟩:=B.V.aJ.mul;obtain⟨kO,hHm,hHq⟩:=hH;obtain⟨LA,hOm,hOq⟩:=hO;have TB:=B.TB;refine F.qi VC (λvs H Q E h=>?_) λcj A bA s H vs Q E hr h=>?_
 ·obtain⟨Hb,wk,wd,a,A,dt,rfl,_⟩:=h
  rfl
 ·obtain⟨Hb,wk,wd,a,A,dt,rfl,sb,ha,hk,hd,hA,kk,kn⟩:=h
  refine⟨_,(aG (dM (O 1) (B.V.along.c k hr aA<|dC (O 0) (bG (bu<|O 1) (O 2) (bu<|O 1))) J) (aG (dM (O 1) (B.V.along.c k hr aA (dC (O 0) (bG (bu<|O 1) (O 2)<|B.hf.c k hr aA (bK (O 0)<|O 1)))) J) (aG (bC 3 VC.nd (B.V.NP.c k hr aA (bG (O 0) (bW (O 0) B.V.aJ.T.cl M7 (O7 k) (hr.aV dc) b7 .nil aA (bK (O 2)<|dH J hHm (v:=.ref kO) J))<|B.ht.c k hr aA (bK (O 0)<|O 1)))) (aR<|dM (O 1) (B.mo.c k hr aA<|bK (O 0) (B.tp.c k hr aA (bG (O 0) (bO xD (fV (bz<|dH J hOm (v:=.ref LA) J))<|O 3) (bu<|O 1)))) J)))),?_⟩;have v0:∀{σ:L2.St}{Hc:Hp},σ[0]? =L (L wk)->az Hb Hc->NT M E (RK CK k) (L ()) σ Hc (aw 0):=λe s=>aj e aN<|aN.up s hk;have v2:∀{σ:L2.St}{Hc:Hp},σ[2]? =L (L wd)->az Hb Hc->NT M E (RC K k) (L dt) σ Hc (aw 2):=λe s=>aj e aI<|aI.up s hd;have v1:∀{σ:L2.St}{Hc:Hp}{A:fu},σ[1]? =L (L<|.ref a)->cp K CB k Hc (.ref a) A->NT M E (cp K CB k) (L A) σ Hc (aw 1):=λe h=>aj e cD h;refine Js (σ:=[L wk,L<|.ref a,L wd,ah]) TB (zA (g:=λp c d=>ja k c d p) (r:=L A.momentum) (c:=L dt) (s:=L A.force) (v0 J sb) (uX TB<|v1 J hA) (v2 J sb) (Uc TB<|v1 J hA)) J hA (λU s1 e=>kn U (sb.trans s1) ?_) λy1 U e1 x1 uJ=>?_
  ·have e:ja k dt A.force A.momentum=ah:=e
   unfold lT;rw[e];rfl
  have e1:ja k dt A.force A.momentum=L y1:=e1;have oS:=x1.base sb ha;have n2:=cT (R:=R3 K k) (σ:=[L wk,L<|.ref a,L wd,ah]) (t:=L ((),{A with momentum:=y1},())) (f:=λx=>pB k x.2.1) (aF aN (v0 J oS)<|aF cD (v1 J uJ) bR);refine WE TB (zA (g:=λp c d=>ja k c d p) (r:=L A.at_) (c:=L dt) (s:=pB k {A with momentum:=y1}) (v0 J oS) (zx (b:={A with momentum:=y1}) TB<|v1 J uJ) (v2 J oS) n2) J uJ (λH2 s2 e=>kn H2 (oS.trans s2) ?_) λy2 H2 e2 x2 A_=>?_
  ·have e:(pB k {A with momentum:=y1}).bind (λb=>ja k dt b A.at_)=ah:=e
   unfold lT;rw[e1];show((pB k {A with momentum:=y1}).bind λv=>ja k dt v A.at_).bind _=ah;rw[e];rfl
  have e2:(pB k {A with momentum:=y1}).bind (λb=>ja k dt b A.at_)=L y2:=e2;have qy:=x2.base oS ha;have pU:=hk.1;have nh:NT M E (RN K k) (L<|lN k) [L wk,L<|.ref a,L wd,ah] H2 (tC<|.ref kO):=iP eP ⟨(1,-1),⟨kO,J,hHq H2⟩,Bw.Iu pU⟩;have nm:=qf (g:=iE k) (r:=L dt) (s:=L<|lN k) uV (v0 J qy) ((v2 J qy).cZ λ_ _ _=>dS pU) nh;have MC:=cT (R:=R3 K k) (σ:=[L wk,L<|.ref a,L wd,ah]) (t:=L ((),{A with momentum:=y1,at_:=y2},())) (f:=λx=>pE k x.2.1) (aF aN (v0 J qy)<|aF cD (v1 J A_) bR);have ng:=Ug (g:=wH k) (r:=iE k dt<|lN k) (s:=pE k A) (v0 J qy) nm MC
  have kn3:∀H',az Hb H'->((iE k dt<|lN k).bind λh=>(pE k A).bind λo=>wH k h o)=ah->E (.ref M) ah H':=λH' s e=>kn H' s (by
   unfold lT;rw[e1];show((pB k {A with momentum:=y1}).bind λv=>ja k dt v A.at_).bind _=ah;rw[e2];show Ao _ _=ah
   rw[e];rfl)
  refine ng H2 _ sr ⟨λH3 ug g s3 eg q3=>?_,λH3 s3 e=>kn3 H3 (qy.trans s3) e⟩;have qA:=qy.trans s3;have GV:=cD.up s3 A_;have nO:NT M E (RT K<|RN K k) (L [Az k]) [L wk,L<|.ref a,L wd,L ug] H3 (lq<|aU (tC<|.ref LA) b8):=NT.eq (zE (f:=λx=>L [x.1]) (aF eP (iP eP ⟨(1,0),⟨LA,J,hOq H3⟩,Bw.rep_one pU⟩) bR) (λ_ _ _ dW=>by obtain⟨v,r,e,_,e2⟩:=dW;subst e e2;show 1<=bI;decide) (λ_ _ y p dm hp=>by obtain⟨v,r,e,q1,e2⟩:=dm;subst e e2;exact⟨_,J,p,_,J,cH.of hp,q1,ck⟩)<|mH eP zt) J
  have nG:NT M E (RT K<|RN K k) (L g.list) [L wk,L<|.ref a,L wd,L ug] H3<|aw 3:=(aj (R:=R3 K k) (y:=g) J bS q3).conv λ_ _ h=>by
   obtain⟨p,vs,e,hp,ha⟩:=qt h;exact⟨p,vs,e,hp,ha.imp λv x=>dS pU⟩
  have n4:NT M E (wz K k) (L ⟨Az k,g.x,g.y,g.z⟩) [L wk,L<|.ref a,L wd,L ug] H3 _:=(xu eP nO nG (by simp) (by simp[ow]) (by show 1+3<=bI;decide)).conv λH v h=>by
   obtain⟨p,vs,rfl,hp,ha⟩:=h;sleep 3;obtain⟨a,b,c,d,rfl,h1,h2,h3,h4⟩:=L' ha;sleep 4;exact⟨p,a,b,c,d,J,hp,h1,h2,h3,h4⟩
  have np:NT M E (R4 K k) (C8 k ⟨Az k,g.x,g.y,g.z⟩ A.turn) [L wk,L<|.ref a,L wd,L ug] H3 _:=cT (t:=L ((),⟨Az k,g.x,g.y,g.z⟩,A.turn,())) (f:=λx=>C8 k x.2.1 x.2.2.1)<|aF aN (v0 J qA) (aF zo n4<|aF gA (xt (b:={A with momentum:=y1,at_:=y2}) TB<|v1 J GV) bR);have nu:=cT (R:=R4 K k) (f:=λx=>yD k x.2.1) (aF aN (v0 J qA)<|aF gA np bR);have nu:=nu.eq (by show _=(C8 k ⟨Az k,g.x,g.y,g.z⟩ A.turn).bind (yD k);cases C8 k ⟨Az k,g.x,g.y,g.z⟩ A.turn<;>rfl);have em:lT k dt A=((C8 k ⟨Az k,g.x,g.y,g.z⟩ A.turn).bind<|yD k).map λq=>{A with momentum:=y1,at_:=y2,turn:=q}:=by
   unfold lT;rw[e1];show((pB k {A with momentum:=y1}).bind λv=>ja k dt v A.at_).bind _=_;rw[e2];show Ao _ _=_;rw[eg];rfl
  refine WH TB nu J GV (λH4 s4 e=>kn H4 (qA.trans s4) (by rw[em,e];rfl)) λy4 H4 e4 x4 hA4=>?_;exact kk H4 _ (((x1.trans x2).trans s3.x).trans x4) (by rw[em,e4];rfl) hA4
end
end BW
namespace BW
open PySem PySem.Spec PyProof.Rows L2
open Bw (bV cV bg cq bf)
section
variable{K:aq}{M:ak}{E:XK}{σ:L2.St}{H:Hp}{t1 t2 te:TE}{k:aB}
theorem Eo{R:bE α}{xs:af α}(m:cY R)(h1:NT M E (RT K R) (L xs) σ H t1)(h2:NT M E fH (L n) σ H t2)(hx:xs[n]? =L x):NT M E R (L x) σ H<|bY (dI K) t1 t2:=λU Q s k=>by
 refine(h1.at_ s).go λv H2 s2 q=>(h2.at_<|s.trans s2).go λu H3 s3 q3=>?_;obtain⟨p,vs,rfl,hp,ha⟩:=zp m _ _ _ _ s3 q;subst q3;obtain⟨v,hv,r⟩:=ha.sF hx;exact⟨p,vs,n,v,J,J,hp,uz hv,k.ok _ _ _ (s2.trans s3) J r⟩
theorem HL(h1:NT M E fH (L a) σ H t1)(h2:NT M E fH (L b) σ H t2):NT M E fH (L<|a+b) σ H<|bY (gu λi j=>.int<|i+j) t1 t2:=λU Q s k=>by
 refine(h1.at_ s).go λv H2 s2 q=>(h2.at_<|s.trans s2).go λu H3 s3 q3=>?_;exact⟨a,b,q,q3,k.ok _ _ _ (s2.trans s3) J<|by congr 1⟩
theorem nt_barec{a:ag}(fa:cV k a)(h:NT M E (RC K k) (L a) σ H te):NT M E (RC K k) (L<|Qr k a) σ H (d_ (B0 K M) [] E<|aU te b8):=by
 have h1:=h.conv λ_ _ q=>q.1;have h2:NT M E (RP K) (L (Bw.lI<|bg k a)) σ H _:=cT (f:=λx=>L<|Bw.lI x.1)<|aF gO h1 bR;rw[Bw.Z9 fa.1] at h2;exact h2.conv λ_ _ q=>⟨q,Bw.RM fa⟩
end
theorem NV{α:Type}:∀{l:af α}{n:ag}{x:α},l[n]? =L x->l.set n x=l
 |[],_,_,h=>by simp at h
 |_::_,0,_,h=>by cases h;rfl
 |a::l,n+1,x,h=>by
  show a::l.set n x=a::l;rw[NV (n:=n) h]
def Ho(k:aB)(ws:af ag)(n:ag)(s:af ag×af ag):af ag×af ag:=(s.1.set n (rZ k (ws.getD n 0) (ws.getD (n+3) 0) (s.1.getD n 0)<|s.2.getD n 0).1,s.2.set n (rZ k (ws.getD n 0) (ws.getD (n+3) 0) (s.1.getD n 0)<|s.2.getD n 0).2)
def xc(k:aB)(ws:af ag)(s:af ag×af ag):ag->af ag×af ag
 |0=>s
 |n+1=>Ho k ws n<|xc k ws s n
theorem S1(k:aB)(ws:af ag)(s:af ag×af ag):∀n,(xc k ws s n).1.length=s.1.length/\(xc k ws s n).2.length=s.2.length
 |0=>⟨J,J⟩
 |n+1=>by
  obtain⟨a,b⟩:=S1 k ws s n;exact⟨by show(List.set _ _ _).length=_;rw[pk,a],by show(List.set _ _ _).length=_;rw[pk,b]⟩
theorem kbs_kept(k:aB)(lo hi:dR)(b:fu):xc k [lo.x,lo.y,lo.z,hi.x,hi.y,hi.z] (b.at_.list,b.momentum.list) 3=((wC k (L (lo,hi)) b).at_.list,(wC k (L (lo,hi)) b).momentum.list):=J
section
variable{P:cO}{w:World}{K:aq}{mg:ax->au aH}{base:b9}{M CK CB:ak}
def R6(K:aq)(k:aB):bE<|dR×dR:=λH v p=>RT K (RC K k) H v [p.1.x,p.1.y,p.1.z,p.2.x,p.2.y,p.2.z]
theorem monoT_6:mj<|R6 K k:=λ_ _ _ _ s h=>Tq dw _ _ _ _ s h
inductive Og(K:aq)(CB:ak)(k:aB)(vs:af V)(H:Hp)(Q:VK)(lu:XK):Prop
 |mk:∀(ww:V)(a:ak)(A:fu)(q:dR×dR),vs=[.ref a,ww]->bV k->R6 K k H ww q->cp K CB k H (.ref a) A->(∀H',gE a H H'->cp K CB k H' (.ref a) (wC k (L q) A)->Q .cu H')->Og K CB k vs H Q lu
theorem IK:bF ["body","walls","place","momentum","k"] ["body","walls"] (ba<|aO 65):=fs
theorem ok_keep{f f1 f2 f3 f4:ak}{fd bZ di fv ig:c7}(F:bh K "keep_between" "keep_between" (aO 65) f fd)(TC:jB mg)(TB:iU K mg CB)(G1:Gf K mg "is_below" q_ f1 bZ ["x","y"])(G2:Gf K mg "without_sign" Nq f2 di ["x"])(G3:Gf K mg "opposite" zS f3 fv ["x"])(G4:Gf K mg "has_minus" rf f4 ig ["x"])(k:aB):aD P w K mg base (aQ P w M) 20 f fd ["body","walls"]<|Og K CB k:=by
 have O1:aD P w K mg base (aQ P w M) 5 f1 bZ ["x","y"]<|oV K M k:=(xB G1.F k).gz.aV dc;have O2:aD P w K mg base (aQ P w M) 5 f2 di ["x"]<|B0 K M:=(ok_bare G2.F G4 G3).gz.aV dc;have O3:aD P w K mg base (aQ P w M) 5 f3 fv ["x"]<|rm K M:=(zF G3.F).gz.aV dc;have m1:=G1.m;have m2:=G2.m;have m3:=G3.m;have k1:=G1.F.kp;have k2:=G2.F.kp;have k3:=G3.F.kp;have b1:=G1.b;have b2:=G2.b;have b3:=G3.b;refine F.qi IK (λvs H Q E h=>?_) λcj A bA s H vs Q E hr h=>?_
 ·obtain⟨ww,a,A,q,rfl,_⟩:=h
  rfl
 ·obtain⟨ww,a,A,⟨lo,hi⟩,rfl,hk,hw,hA,kk⟩:=h
  refine⟨_,(aG (bC 2 IK.nd (nX KW J TC.list Q0<|bz (bu<|O 0))) (aG (bC 3 IK.nd (nX KW J TC.list Q0<|bz (bu<|O 0))) (aG (nZ mI J (zK J TC.range<|bz a_) (eC 4 IK.nd) (aR (dU (i7<|cM O1 (hr.aV dc) J m1 k1 b1 .nil aA (bK (d4 kr (O 2) (O 4) λ_ _=>J)<|d4 uQ (O 1) (O 4) λ_ _=>J)) (aG (zM (d4 uQ (O 1) (O 4) λ_ _=>J)<|zJ (O 2) (O 4) zW) (aR<|zM (cM O2 (hr.aV dc) J m2 k2 b2 .nil aA (bz<|d4 kr (O 3) (O 4) λ_ _=>J))<|zJ (O 3) (O 4) zW)) (aR (dU (i7<|cM O1 (hr.aV dc) J m1 k1 b1 .nil aA (bK (d4 uQ (O 1) (bO fC (O 4) a_) λ_ _=>J)<|d4 kr (O 2) (O 4) λ_ _=>J)) (aG (zM (d4 uQ (O 1) (bO fC (O 4) a_) λ_ _=>J)<|zJ (O 2) (O 4) zW) (aR<|zM (cM O3 (hr.aV dc) J m3 k3 b3 .nil aA (bz<|cM O2 (hr.aV dc) J m2 k2 b2 .nil aA (bz<|d4 kr (O 3) (O 4) λ_ _=>J)))<|zJ (O 3) (O 4) zW)) d7))))) (aG (dM (O 0) (nX qJ J TC.tuple sk (bz<|O 2)) J) (aR<|dM (O 0) (nX qJ J TC.tuple sk (bz<|O 3)) J))))),?_⟩;obtain⟨a',dx,v0,v1,v2,v3,v4,v5,v6,ea,ha,h0,h1,h2,h3,h4,h5,h6⟩:=id hA
  cases ea
  obtain⟨p2,O,rfl,lO,ap⟩:=qt h2;obtain⟨p4,mv,rfl,hp4,am⟩:=qt h4;refine⟨_,J,a,CB,dx,_,_,J,ha,TB.cl,TB.np,QW,p2,O,J,.inr lO,λl1 qO=>?_⟩;have s1:az H (aC H l1<|.lst O):=az.new qO;refine⟨_,J,a,CB,dx,_,_,J,s1 _ _ ha,TB.cl,TB.HC,QX,p4,mv,J,.inr<|s1.tup hp4,λl2 ij=>?_⟩;have s2:az H<|aC (aC H l1<|.lst O) l2<|.lst mv:=s1.trans<|az.new ij;have Hr:l1≠l2:=λz=>by rw[<-z,bw] at ij;cases ij
  have n2:H l2=ah:=by rw[bJ<|dB Hr] at ij;exact ij
  have ws:RT K (RC K k) H ww [lo.x,lo.y,lo.z,hi.x,hi.y,hi.z]:=hw;refine⟨3,J,dc,dc,?_⟩;refine RY (lo:=0) (n:=3) (λj aS H'=>E3 λ(x4:au V)(O mv:af V)=>A6 (aS=[L<|.ref a,L ww,L<|.ref l1,L<|.ref l2,x4]) (az H H') (H' l1=L (.lst O)) (H' l2=L (.lst mv)) (cf (RC K k H') O (xc k [lo.x,lo.y,lo.z,hi.x,hi.y,hi.z] (A.at_.list,A.momentum.list) j).1)<|cf (RC K k H') mv (xc k [lo.x,lo.y,lo.z,hi.x,hi.y,hi.z] (A.at_.list,A.momentum.list) j).2)
   ⟨ah,O,mv,J,s2,by rw[bJ Hr,bw],bw,ap.imp λv x=>aI _ _ _ _ s2,am.imp λv x=>aI _ _ _ _ s2⟩ (λj aS H' hj I=>?_) λaS H' I=>?_
  ·obtain⟨x4,O,mv,rfl,sm,e1,e2,ap,am⟩:=I
   obtain⟨lp,lm⟩:=S1 k [lo.x,lo.y,lo.z,hi.x,hi.y,hi.z] (A.at_.list,A.momentum.list) j;generalize hS:xc k [lo.x,lo.y,lo.z,hi.x,hi.y,hi.z] (A.at_.list,A.momentum.list) j=S at*;have LC:xc k [lo.x,lo.y,lo.z,hi.x,hi.y,hi.z] (A.at_.list,A.momentum.list) (j+1)=Ho k [lo.x,lo.y,lo.z,hi.x,hi.y,hi.z] j S:=by rw[<-hS];rfl
   have lp:S.1.length=3:=lp;have lm:S.2.length=3:=lm;have gp:S.1[j]? =L (S.1.getD j 0):=by simp[m7,lp,hj]
   have gm:S.2[j]? =L (S.2.getD j 0):=by simp[m7,lm,hj]
   have gl:[lo.x,lo.y,lo.z,hi.x,hi.y,hi.z][j]? =L ([lo.x,lo.y,lo.z,hi.x,hi.y,hi.z].getD j 0):=by rw[Cq,yi (by show j<6;omega)];rfl
   have gh:[lo.x,lo.y,lo.z,hi.x,hi.y,hi.z][j+3]? =L ([lo.x,lo.y,lo.z,hi.x,hi.y,hi.z].getD (j+3) 0):=by rw[Cq,yi (by show j+3<6;omega)];rfl
   obtain⟨um,hum,rum⟩:=am.sF gm;have fm:cV k<|S.2.getD j 0:=rum.2;generalize sP:[L<|V.ref a,L ww,L<|V.ref l1,L<|V.ref l2,L (V.int<|(0:ae)+(j:ae))]=de;have i4:∀{Hc:Hp},NT M E fH (L j) de Hc<|aw 4:=λ{Hc}=>by subst sP;exact aj J iq (by show V.int _=V.int _;rw[wc])
   have iw:∀{Hc:Hp},az H Hc->NT M E (RT K<|RC K k) (L [lo.x,lo.y,lo.z,hi.x,hi.y,hi.z]) de Hc (aw 1):=λs=>by subst sP;exact aj J (zp aI)<|zp aI _ _ _ _ s ws
   have ip:∀{Hc:Hp}{O:af V}{ps:af ag},Hc l1=L (.lst O)->cf (RC K k Hc) O ps->NT M E (RL K<|RC K k) (L ps) de Hc (aw 2):=λe a=>by subst sP;exact aj J (cE aI) ⟨l1,_,J,SqL.of e,a⟩
   have im:∀{Hc:Hp}{O:af V}{ps:af ag},Hc l2=L (.lst O)->cf (RC K k Hc) O ps->NT M E (RL K<|RC K k) (L ps) de Hc (aw 3):=λe a=>by subst sP;exact aj J (cE aI) ⟨l2,_,J,SqL.of e,a⟩
   have dr:∀(U:Hp)(tw tm:TE)(x y:ag),az H' U->(∀Hc,az H Hc->NT M E (RC K k) (L x) de Hc tw)->(∀Hc,az H Hc->Hc l2=L (.lst mv)->cf (RC K k Hc) mv S.2->NT M E (RC K k) (L y) de Hc tm)->rZ k ([lo.x,lo.y,lo.z,hi.x,hi.y,hi.z].getD j 0) ([lo.x,lo.y,lo.z,hi.x,hi.y,hi.z].getD (j+3) 0) (S.1.getD j 0) (S.2.getD j 0)=(x,y)-> ∀D:Ends,(∀H',(E3 λ(x4:au V)(O mv:af V)=>A6 (de=[L<|.ref a,L ww,L<|.ref l1,L<|.ref l2,x4]) (az H H') (H' l1=L (.lst O)) (H' l2=L (.lst mv)) (cf (RC K k H') O (Ho k [lo.x,lo.y,lo.z,hi.x,hi.y,hi.z] j S).1)<|cf (RC K k H') mv (Ho k [lo.x,lo.y,lo.z,hi.x,hi.y,hi.z] j S).2)->D.nx de H')->
    oY (j7 tw<|yT (aw 2) (aw 4) xM) (j7 tm<|yT (aw 3) (aw 4) xM) D de U:=λU tw tm x y IB n1 n2' eb D hD=>by
    have V6:=sm.trans IB;refine(n1 U V6).go λu H2 s3 q=>?_;have Ro:=(IB.trans s3) _ _ e1;have K7:=(IB.trans s3) _ _ e2;have lpv:=ap.bH;have lmv:=am.bH;have s2e:de[2]? =L (L<|V.ref l1):=by subst sP;rfl
    have s3e:de[3]? =L (L<|V.ref l2):=by subst sP;rfl
    have Vo:de[4]? =L (L<|V.int (j:ae)):=by subst sP;show L (L<|V.int _)=L (L<|V.int _);rw[wc]
    have zh:kQ O.length (j:ae)=L j:=by unfold kQ;rw[aK om,aK om,kI]
    have ixm:kQ mv.length (j:ae)=L j:=by unfold kQ;rw[aK om,aK om,kI]
    refine⟨_,s2e,_,Vo,l1,O,(j:ae),j,J,J,Ro,zh,?_⟩;have t3:cw H2<|aC H2 l1 (.lst<|O.set j u):=cw.aC (by rw[Ro];trivial);have V7:az H<|aC H2 l1 (.lst<|O.set j u):=λb o e=>by rw[bJ<|dy e qO];exact s3 _ _<|V6 _ _ e
    have K8:aC H2 l1 (.lst<|O.set j u) l2=L (.lst mv):=by rw[bJ<|dB Hr];exact K7
    have tt:cw H'<|aC H2 l1 (.lst<|O.set j u):=((IB.trans s3).i.1).trans t3;refine(n2' _ V7 K8 (am.imp λv x=>dw _ _ _ _ tt)).go λu2 H3 s4 q2=>?_;refine⟨_,s3e,_,Vo,l2,mv,(j:ae),j,J,J,s4 _ _ K8,ixm,?_⟩;have t4:cw H3<|aC H3 l2 (.lst<|mv.set j u2):=cw.aC (by rw[s4 _ _ K8];trivial);have W4:cw H'<|aC H3 l2 (.lst<|mv.set j u2):=(tt.trans s4.i.1).trans t4;refine hD _ ⟨L<|.int (j:ae),O.set j u,mv.set j u2,?_,λb o e=>?_,?_,bw,?_,?_⟩
    ·subst sP;rw[wc]
    ·rw[bJ<|dy e n2];exact s4 _ _<|V7 _ _ e
    ·rw[bJ Hr];exact s4 _ _ bw
    ·show cf _ _<|S.1.set j (rZ k _ _ _ _).1
     rw[eb];exact(ap.imp λv x=>dw _ _ _ _ W4).set j<|dw _ _ _ _ ((t3.trans s4.i.1).trans t4) q
    ·show cf _ _<|S.2.set j (rZ k _ _ _ _).2
     rw[eb];exact(am.imp λv x=>dw _ _ _ _ W4).set j<|dw.up t4 q2
   have nP:NT M E (RC K k) (L<|S.1.getD j 0) de H' (bY (kZ K) (aw 2)<|aw 4):=qU aI (ip e1 ap) i4 gp;have nL:∀{Hc:Hp},az H Hc->NT M E (RC K k) (L<|[lo.x,lo.y,lo.z,hi.x,hi.y,hi.z].getD j 0) de Hc (bY (dI K) (aw 1)<|aw 4):=λs=>Eo aI (iw s) i4 gl;have n3:∀{Hc:Hp},NT M E fH (L 3) de Hc (tC<|.int 3):=iP iq J;have nH:∀{Hc:Hp},az H Hc->NT M E (RC K k) (L<|[lo.x,lo.y,lo.z,hi.x,hi.y,hi.z].getD (j+3) 0) de Hc (bY (dI K) (aw 1) (bY (gu λi j=>.int<|i+j) (aw 4) (tC<|.int 3))):=λs=>Eo aI (iw s) (HL i4 n3) gh;have nB:∀Hc,az H Hc->Hc l2=L (.lst mv)->cf (RC K k Hc) mv S.2->NT M E (RC K k) (L (Qr k<|S.2.getD j 0)) de Hc (d_ (B0 K M) [] E<|aU (bY (kZ K) (aw 3)<|aw 4) b8):=λHc s e a=>nt_barec fm<|qU aI (im e a) i4 gm;have go:∀D:Ends,_->z8 (tB (d_ (oV K M k) [] E (aU (bY (kZ K) (aw 2)<|aw 4)<|aU (bY (dI K) (aw 1)<|aw 4) b8)))
     (oY (j7 (bY (dI K) (aw 1)<|aw 4)<|yT (aw 2) (aw 4) xM)<|j7 (d_ (B0 K M) [] E<|aU (bY (kZ K) (aw 3)<|aw 4) b8)<|yT (aw 3) (aw 4) xM)
     (z8 (tB (d_ (oV K M k) [] E<|aU (bY (dI K) (aw 1) (bY (gu λi j=>.int<|i+j) (aw 4) (tC<|.int 3)))<|aU (bY (kZ K) (aw 2)<|aw 4) b8))
       (oY (j7 (bY (dI K) (aw 1) (bY (gu λi j=>.int<|i+j) (aw 4) (tC<|.int 3)))<|yT (aw 2) (aw 4) xM)<|j7 (d_ (rm K M) [] E<|aU (d_ (B0 K M) [] E<|aU (bY (kZ K) (aw 3)<|aw 4) b8) b8)<|yT (aw 3) (aw 4) xM)
       Jw) D de H':=λD hD=>by
    refine(tj (nP.cZ λ_ _ _=>dS hk) ((nL sm).cZ λ_ _ _=>dS hk)).go λv U s1 q1=>⟨_,q1,?_⟩
    cases c1:jT k (S.1.getD j 0) ([lo.x,lo.y,lo.z,hi.x,hi.y,hi.z].getD j 0) with
    |true=>
     refine jJ ?_;exact dr U _ _ _ _ s1 (λHc s=>nL s) nB (by unfold rZ;rw[aK c1]) D hD
    |false=>
     refine pX ?_;have nP1:NT M E (RC K k) (L<|S.1.getD j 0) de U (bY (kZ K) (aw 2)<|aw 4):=nP.at_ s1;refine(tj ((nH<|sm.trans s1).cZ λ_ _ _=>dS hk) (nP1.cZ λ_ _ _=>dS hk)).go λv H2 s2 q2=>⟨_,q2,?_⟩
     cases c2:jT k ([lo.x,lo.y,lo.z,hi.x,hi.y,hi.z].getD (j+3) 0) (S.1.getD j 0) with
     |true=>
      refine jJ ?_;refine dr H2 _ _ _ (Qr k (S.2.getD j 0)+k.sign) (s1.trans s2) (λHc s=>nH s) (λHc s e a=>?_) (by unfold rZ;rw[ay (by rw[c1];decide),aK c2]) D hD;have:=HW (Bw.RM fm)<|nB Hc s e a;rw[<-Bw.size_sign] at this;exact this
     |false=>
      refine pX ?_;have eb:rZ k ([lo.x,lo.y,lo.z,hi.x,hi.y,hi.z].getD j 0) ([lo.x,lo.y,lo.z,hi.x,hi.y,hi.z].getD (j+3) 0) (S.1.getD j 0) (S.2.getD j 0)=(S.1.getD j 0,S.2.getD j 0):=by unfold rZ;rw[ay (by rw[c1];decide),ay (by rw[c2];decide)]
      have jq:=s1.trans s2;refine hD H2 ⟨L<|.int (j:ae),O,mv,by subst sP;rw[wc],sm.trans jq,jq _ _ e1,jq _ _ e2,?_,?_⟩
      ·show cf _ _<|S.1.set j (rZ k _ _ _ _).1
       rw[eb,NV gp];exact ap.imp λv x=>aI _ _ _ _ jq
      ·show cf _ _<|S.2.set j (rZ k _ _ _ _).2
       rw[eb,NV gm];exact am.imp λv x=>aI _ _ _ _ jq
   show z8 _ _ _ _ ([L<|V.ref a,L ww,L<|V.ref l1,L<|V.ref l2,L (V.int<|(0:ae)+(j:ae))]) H';rw[sP];exact go _ λH3 dm=>by obtain⟨x4,O,mv,e,q1,q2,q3,q4,q5⟩:=dm;exact⟨x4,O,mv,e,q1,q2,q3,by rw[LC];exact q4,by rw[LC];exact q5⟩
  ·obtain⟨x4,O,mv,rfl,sm,e1,e2,ap,am⟩:=I
   rw[kbs_kept] at ap am;have nP:NT M E (R3 K k) (L (wC k (L (lo,hi)) A).at_) [L<|.ref a,L ww,L<|.ref l1,L<|.ref l2,x4] H' (xX (Nh K)<|aU (aw 2) b8):=λU Q s kq=>⟨_,J,l1,O,J,.inl ⟨SqL.of<|s _ _ e1,λt ht=>kq.ok _ _ _ (az.new ht) J<|vB ⟨t,O,J,cH.of bw,ap.imp λv x=>aI _ _ _ _ (s.trans<|az.new ht)⟩⟩⟩;refine WE TB nP J (cD.up sm hA) (λ_ _ e=>nomatch e) λy1 U ey x1 uJ=>?_
   cases ey
   have K7:U l2=L (.lst mv):=x1 _ _ e2<|eJ e2 (sm _ _ ha) (by intro q;cases q);have t1:cw H' U:=⟨λz xs e=>x1 _ _ e<|eJ e (sm _ _ ha) (by intro q;cases q),λz o u e=>x1 _ _ e<|eJ e (sm _ _ ha) (by intro q;cases q)⟩;have nM:NT M E (R3 K k) (L (wC k (L (lo,hi)) A).momentum) [L<|.ref a,L ww,L<|.ref l1,L<|.ref l2,x4] U (xX (Nh K)<|aU (aw 3) b8):=λH2 Q s kq=>⟨_,J,l2,mv,J,.inl ⟨SqL.of<|s _ _ K7,λt ht=>kq.ok _ _ _ (az.new ht) J (vB ⟨t,mv,J,cH.of bw,am.imp λv x q=>aI _ _ _ _ (s.trans<|az.new ht)<|dw.up t1 q⟩)⟩⟩;refine Js TB nM J uJ (λ_ _ e=>nomatch e) λy2 H2 ey x2 A_=>?_
   cases ey
   exact kk H2 ((sm.x.trans x1).trans x2) A_
end
end BW
namespace BW
open PySem PySem.Spec PyProof.Rows L2
open Bw (bV cV bg cq rN rT iF ir gc qE j4 lY kF bf)
section
variable{P:cO}{w:World}{K:aq}{mg:ax->au aH}{base:b9}{M CK CB CM CP CS CN CU:ak}
def DA(k:aB)(x:gF×af fu×af ke×gF):au (af<|au Ax):=(fS k x).bind λsp=>bf (λy=>lY k y.1 y.2)<|x.2.2.1.zip sp
abbrev Oc(K:aq)(M CK CB CS CU:ak)(k:aB):Sp:=cU M (Fw K CK CB CS k) (RL K<|Av K CU k)<|DA k
theorem ET:bF ["kind","bodies","springs","spans","spring","span"] ["kind","bodies","springs"] (ba<|aO 61):=fs
theorem ok_findPushes{f:ak}(F:bh K "find_pushes" "find_pushes" (aO 61) f fd)(TC:jB mg)(A1:cX P w K mg base M 20 "find_spans" ["kind","bodies","springs"] λk=>Je K M CK CB CS CN CP k)(A2:cX P w K mg base M 24 "find_push" ["kind","spring","span"] λk=>Ob K M CK CS CN CP CU k)(k:aB):aD P w K mg base (aQ P w M) 30 f fd ["kind","bodies","springs"]<|Oc K M CK CB CS CU k:=by
 obtain⟨f2,di,m2,k2,b2,O2⟩:=A2;refine F.oc ET λH Q E hr h=>?_;sleep 3;obtain⟨⟨_,bs,ss,_⟩,⟨ar8,km⟩,kk⟩:=h;sleep 4;refine ar8.c3 λw1 w2 w3 h1 h2 h3=>?_
 refine⟨_,(aG (bC 3 ET.nd<|A1.c k hr aA (bG (O 0) (O 1)<|O 2)) (aR (bp (oM (own:=[("spring",4),("span",5)]) (g:=Lk K 4 5) J J J jZ J ET.nd (M8 J TC.zip (bK (O 2)<|O 3)) bk
  (λ_ _ _ _ _=>BH (n:=2) J (qk (eC 4 ET.nd)<|qk (eC 5 ET.nd) BI)) (λ_ _ _ _ _=>jo)
  (λ_ _ _ _ _=>by exact cM (O2 k) (hr.aV dc) J m2 k2 b2 .nil j1 (bG (O 0) (O 4)<|O 5)))))),?_⟩
 have v0:∀{σ:L2.St}{Hc:Hp},σ[0]? =L (L w1)->az H Hc->NT M E (RK CK k) (L ()) σ Hc (aw 0):=λe s=>aj e aN<|aN.up s h1;have n1:=cT (R:=fG<|jA K CN CP k) (σ:=[L w1,L w2,L w3,ah,ah,ah]) (f:=fS k) (nW (c:=λx=>ox x.2.1.length x.2.2.1/\x.2.1.length<=4096/\x.2.2.1.length<=8192) (aF aN (v0 J sr) (aF (cE cD) (aj (i:=1) J (cE cD) h2)<|aF (cE eO.m) (aj (i:=2) J (cE eO.m) h3) bR)) λy e=>by cases e;exact km);refine bQ.bindB kk sr n1 λsp u U s1 GI q1s kk=>?_;have q1:RL K (jA K CN CP k) U u sp:=EK q1s;have hl:=Bw.iQ GI;refine bQ.gX kk s1 (nt_lcZ Tj.mO Tj.m eO.m kS.m (aF (cE eO.m) (aj (i:=2) J (cE eO.m)<|cE eO.m _ _ _ _ s1 h3)<|aF (cE kS.m) (aj (i:=3) J (cE kS.m) q1) bR) hl.symm (dN km.2.2 dc) (λ_ _=>J) λH2 u1 u2 y z s2 _ r1 r2=>?_);exact cT (t:=L ((),y,z,())) (f:=λx=>lY k x.2.1 x.2.2.1) (aF aN (v0 J<|s1.trans s2) (aF eO.m (aj (i:=4) J eO.m r1)<|aF kS.m (aj (i:=5) J kS.m r2) bR))
end
end BW
namespace BW
open PySem PySem.Spec PyProof.Rows L2
open Bw (bV cV bg cq rN rT iF ir gc qE j4 lY kF bf dY lT j5)
section
variable{K:aq}{CB:ak}{k:aB}
def C3(K:aq)(k:aB):bE (au<|dR×dR):=λH v m=>(v= .cu/\m=ah)\/ ∃p,m=L p/\(∃a,v= .ref a)/\R6 K k H v p
theorem qR:mj<|C3 K k:=λ_ _ _ _ s h=>h.imp (λz=>z) λdm=>by obtain⟨p,e,a,r⟩:=dm;exact⟨p,e,a,monoT_6.up s r⟩
theorem VV{α:Type}{x y:α}{t:af α}:∀{zs:af α},(zs++x::t).set zs.length y=zs++y::t
 |[]=>rfl
 |z::zs=>by
  show z::(zs++x::t).set zs.length y=_;rw[VV];rfl
def iR(K:aq)(CB:ak)(k:aB)(H:Hp)(as:af ak)(bs:af fu):Prop:=cf (cp K CB k H) (as.map V.ref) bs
theorem iR.same(h:iR K CB k H as bs)(s:az H H'):iR K CB k H' as bs:=cf.imp (λv x=>cD _ _ _ _ s) h
theorem iR.get(h:iR K CB k H as bs)(hi:i<bs.length):∃a,as[i]? =L a/\cp K CB k H (.ref a) (bs.getD i default):=by
 obtain⟨v,hv,r⟩:=cf.sF h (i:=i) (x:=bs.getD i default)<|by simp[m7,hi]
 rw[m8] at hv
 cases e:as[i]? with
 |none=>rw[e] at hv;cases hv
 |some a=>rw[e] at hv;cases hv;exact⟨a,J,r⟩
theorem iR.at_(h:iR K CB k H as bs){i:ag}(h1:as[i]? =L a)(h2:bs[i]? =L b):cp K CB k H (.ref a) b:=cf.at_ h (by rw[m8,h1];rfl) h2
theorem iR.bH(h:iR K CB k H as bs):as.length=bs.length:=by
 have:=cf.bH h;rwa[ie] at this
theorem iR.of(hl:as.length=bs.length)(h:∀(i:ag)a b,as[i]? =L a->bs[i]? =L b->cp K CB k H (.ref a) b):iR K CB k H as bs:=cf.MT (by rw[ie];exact hl) λi v b h1 h2=>by
 rw[m8] at h1
 cases e:as[i]? with
 |none=>rw[e] at h1;cases h1
 |some a=>rw[e] at h1;cases h1;exact h i a b e h2
theorem HA{as:af ak}(nd:as.Nodup){i j:ag}(h1:as[i]? =L a)(h2:as[j]? =L a):i=j:=by
 obtain⟨g1,e1⟩:=List.getElem?_eq_some_iff.mp h1;obtain⟨g2,e2⟩:=List.getElem?_eq_some_iff.mp h2;exact(Ya nd).mp<|e1.trans e2.symm
theorem iR.put(nd:as.Nodup)(h:iR K CB k H as bs)(hi:as[i]? =L a)(st:∀c d,c≠a->cp K CB k H (.ref c) d->cp K CB k H' (.ref c) d)(hb:cp K CB k H' (.ref a) b):iR K CB k H' as<|bs.set i b:=iR.of (by rw[pk];exact h.bH) λn c d h1 h2=>by
  by_cases e:n=i
  ·subst e
   rw[hi] at h1
   cases h1
   rw[Ct (by rw[<-h.bH];exact(List.getElem?_eq_some_iff.mp hi).1)] at h2
   cases h2
   exact hb
  ·rw[Ah<|dB e] at h2
   exact st c d (λz=>e (HA nd h1<|z▸hi))<|h.at_ h1 h2
theorem iR.put2(nd:as.Nodup)(h:iR K CB k H as bs)(hij:i≠j)(hi:as[i]? =L a)(hj:as[j]? =L c)(st:∀x d,x≠a->x≠c->cp K CB k H (.ref x) d->cp K CB k H' (.ref x) d)(hb:cp K CB k H' (.ref a) b)(hd:cp K CB k H' (.ref c) d):iR K CB k H' as<|(bs.set i b).set j d:=iR.of (by rw[pk,pk];exact h.bH) λn x y h1 h2=>by
  by_cases e:n=j
  ·subst e
   rw[hj] at h1
   cases h1
   rw[Ct (by rw[pk,<-h.bH];exact(List.getElem?_eq_some_iff.mp hj).1)] at h2
   cases h2
   exact hd
  ·rw[Ah<|dB e] at h2
   by_cases e':n=i
   ·subst e'
    rw[hi] at h1
    cases h1
    rw[Ct (by rw[<-h.bH];exact(List.getElem?_eq_some_iff.mp hi).1)] at h2
    cases h2
    exact hb
   ·rw[Ah<|dB e'] at h2
    exact st x y (λz=>e' (HA nd h1<|z▸hi)) (λz=>e (HA nd h1<|z▸hj))<|h.at_ h1 h2
end
section
variable{P:cO}{w:World}{K:aq}{mg:ax->au aH}{base:b9}{M CK CB CS CU:ak}
abbrev Xo(K:aq)(CK CB CS:ak)(k:aB):gk<|gF×af fu×af ke×au (dR×dR)×ag×gF:=rX (aE (RK CK k) (aE (RL K<|cp K CB k) (aE (RL K<|i_ K CS k) (aE (C3 K k)<|aE (RC K k) cg)))) λx=>ox x.2.1.length x.2.2.1/\x.2.1.length<=4096/\x.2.2.1.length<=8192
def Ry(k:aB)(x:gF×af fu×af ke×au (dR×dR)×ag×gF):au<|af fu:=j5 k x.2.2.2.2.1 {bodies:=x.2.1,springs:=x.2.2.1,walls:=x.2.2.2.1}
inductive jy(H0:Hp)(R:bE α)(H:Hp)(v:V)(xs:af α):Prop
 |mk:∀p vs,v= .ref p->H p=L (.lst vs)->cf (R H) vs xs->H0 p=ah->jy H0 R H v xs
inductive B1(C:ak)(A:gk τ)(R:Hp->af V->τ->bE α)(f:τ->au α)(vs:af V)(H:Hp)(Q:VK)(E:XK):Prop
 |mk:∀t,A H vs t->bQ C (R H vs t) H (f t) Q E->B1 C A R f vs H Q E
instance{A:gk τ}{R:Hp->af V->τ->bE α}{f:τ->au α}[q:LR A n]:LS (B1 C A R f) n:=⟨λdW=>by obtain⟨_,h,_⟩:=dW;exact q.l h⟩
theorem nt_callF{A:gk τ}{t:au τ}{f:τ->au (af α)}(h:NA C E A t σ H ta):NT C E (jy H R) (t.bind f) σ H<|d_ (B1 C A (λH _ _=>jy H R) f) [] E ta:=λU Q s k=>
 h U _ s ⟨λH2 vs y s2 e q=>⟨y,by rw[pj];exact q,λH' v z s' e' gw=>by obtain⟨p,us,e1,e2,e3,e4⟩:=gw;exact k.ok H' v z (s2.trans s') (by rw[e];exact e') ⟨p,us,e1,e2,e3,(s.trans s2).free e4⟩,λH' s' e'=>k.no H' (s2.trans s') (by rw[e];exact e')⟩,λH2 s2 e=>k.no H2 s2 (by rw[e];rfl)⟩
abbrev Oo(K:aq)(M CK CB CS:ak)(k:aB):Sp:=B1 M (Xo K CK CB CS k) (λH _ _=>jy H<|cp K CB k)<|Ry k
theorem zU:bF ["kind","bodies","springs","walls","dt","pushes","later","spring","push","body"] ["kind","bodies","springs","walls","dt"] (ba<|aO 66):=fs
theorem ok_oneStep{f fB fT:ak}{fd GO uF:c7}(F:bh K "one_step" "one_step" (aO 66) f fd)(TC:jB mg)(B:BM P w K mg base M CK CB)(TS:Tx K mg CS "Spring" oR)(mB:mg "Body"=L (.ref CB))
 (MB:Mk K CB fB) (OB:∀k,aD P w K mg base (aQ P w M) 10 fB GO ["self","numbers"]<|Fg K M CB k) (bB:Binds K GO ["self","numbers"] []) (Cy:pq K CB "twenty" fT) (rS:∀k,aD P w K mg base (aQ P w M) 10 fT uF ["self"]<|vN K M CB k) (Dh:Binds K uF ["self"] [])
 (A1:cX P w K mg base M 30 "find_pushes" ["kind","bodies","springs"] λk=>Oc K M CK CB CS CU k) (A3:cX P w K mg base M 20 "do_push" ["kind","push","first","second","dt"] λk=>N_ K M CK CB CU k) (A4:cX P w K mg base M 20 "move" ["kind","body","dt"] λk=>Oj K M CK CB k) (A5:cX P w K mg base M 20 "keep_between" ["body","walls"] λk=>Og K CB k) (k:aB):
 aD P w K mg base (aQ P w M) 34 f fd ["kind","bodies","springs","walls","dt"]<|Oo K M CK CB CS k:=by
 obtain⟨f3,fv,m3,k3,b3,O3⟩:=A3;obtain⟨f4,ig,m4,k4,b4,O4⟩:=A4;obtain⟨f5,fd5,m5,k5,b5,O5⟩:=A5;refine F.oc zU λH Q E hr h=>?_;sleep 3;obtain⟨⟨_,bs,ss,wl,dt,_⟩,⟨ar9,km⟩,kk⟩:=h;sleep 4;refine ar9.c5 λw1 w2 w3 w4 w5 h1 h2 h3 h4 h5=>?_
 refine⟨_,(aG (bC 5 zU.nd<|A1.c k hr aA (bG (O 0) (O 1)<|O 2))
  (aG (BJ (i:=6) (own:=[("body",9)]) J J J jZ J zU.nd J J (B7 J J J J) (jm<|O 1) bk (λ_ _ _ _ _=>by exact eC 9 zU.nd) (λ_ _ _ _ _=>jo) λ_ _ _ _ _=>by exact oN MB (OB k) (hr.aV dc) J mB bB .nil j1 (bz<|eu (O 9) B.TB.cl Cy (rS k) (hr.aV dc) Dh .nil j1))
  (aG (nZ mI J (M8 J TC.zip (bK (O 2)<|O 5)) (BH J (qk (eC 7 zU.nd)<|qk (eC 8 zU.nd) BI))<|aR (dU (dD UN (O 8) nY<|cW _) (aR<|qp (cM (O3 k) (hr.aV dc) J m3 k3 b3 .nil aA (dC (O 0)<|dC (O 8) (bG (d4 kr (O 6) (bu<|O 7) λ_ _=>J) (d4 kr (O 6) (bu<|O 7) λ_ _=>J)<|O 4)))) d7))
  (aG (nZ mI J (jm<|O 6) (eC 9 zU.nd) (aG (qp<|cM (O4 k) (hr.aV dc) J m4 k4 b4 .nil aA (bG (O 0) (O 9)<|O 4)) (aR<|dU (dD UN (O 3) nY<|cW _) (aR (qp<|cM (O5 k) (hr.aV dc) J m5 k5 b5 .nil aA (bK (O 9)<|O 3))) d7)))
  (aR (bp<|O 6)))))),?_⟩
 obtain⟨p2,bv,rfl,lO,a2⟩:=id h2;obtain⟨p3,sv,rfl,sO,a3⟩:=id h3;have n1:NT M E (RL K<|Av K CU k) (DA k ((),bs,ss,())) [L w1,L<|.ref p2,L<|.ref p3,L w4,L w5,ah,ah,ah,ah,ah] H _:=cT (t:=L ((),bs,ss,())) (f:=DA k) (nW (c:=λx=>ox x.2.1.length x.2.2.1/\x.2.1.length<=4096/\x.2.2.1.length<=8192) (aF aN (aj (i:=0) J aN h1) (aF (cE cD) (aj (i:=1) J (cE cD) h2)<|aF (cE eO.m) (aj (i:=2) J (cE eO.m) h3) bR)) λy e=>by cases e;exact km);refine bQ.bindB (rb:=DA k ((),bs,ss,())) kk sr n1 λps u5 U s1 Dz q1 kk=>?_;have fw:ps.length=ss.length:=by
  unfold DA at Dz
  cases e:fS k ((),bs,ss,()) with
  |none=>rw[e] at Dz;cases Dz
  |some sp=>
   rw[e] at Dz;have l1:=Bw.iQ Dz;have l2:sp.length=ss.length:=Bw.iQ e;rw[l1,FI,l2];exact PZ _
 obtain⟨p5,O,rfl,Bj,a5⟩:=q1;refine⟨_,J,p2,J,⟨bv,s1.seq lO⟩,λD hD=>?_⟩;refine Hs (K:=K) (xs:=bv) (λj Hc=>∃as:af ak,A5 (az U Hc) (Hc D=L (.lst<|as.map V.ref)) (as.Nodup) ((∀a∈as,U a=ah/\a≠D)) (iR K CB k Hc as<|bs.take j))
  ⟨[],az.new hD,bw,List.nodup_nil,(λ_ h=>nomatch h),by rw[m9];trivial⟩ (λj Hc _ Ac=>by obtain⟨as,sm,_⟩:=Ac;exact sm.seq<|s1.seq lO) (λj x Hc hx I=>?_) λHc I=>?_
 ·obtain⟨as,sm,eD,nd,fr,hb⟩:=I
  obtain⟨b,wW,rb⟩:=a2.get hx;have hj:j<bs.length:=by
   rcases FO j bs.length with z|z
   ·exact z
   ·rw[Cr z] at wW;cases wW
  refine⟨J,?_⟩;unfold oZ;refine jJ ?_;have nTw:NT M E (CY K k) (L<|nz b) ((da [L w1,L<|V.ref p2,L<|.ref p3,L w4,L w5,L<|.ref p5,ah,ah,ah,ah] [9]).set 9<|L x) Hc<|eE CB "twenty" (vN K M CB k) [] E (aw 9) b8:=(NT.eq (oJ (R':=cp K CB k) (y:=b) (t:=L ()) (f:=λx=>L<|nz x.1) (aj J cD<|cD _ _ _ _ (s1.trans sm) rb) cD (λH v vW=>by obtain⟨a,dx,v0,v1,v2,v3,v4,v5,v6,e,h,_⟩:=vW;exact⟨a,dx,_,e,h,by unfold fR;sleep 1;rfl⟩) bR) J).conv λH v h=>⟨.inr h,J⟩
  refine(aF D9 nTw bR) Hc _ sr ⟨λH4 vs y s4 e q=>λx dx n0 n1 n2=>?_,λH4 s4 e=>nomatch e⟩
  cases e
  refine⟨H4,x,dx,(nz b,()),vs,by rw[pj],bw,(az.new n1).trans (az.new<|by rw[bJ<|dB n2];exact n0),n0,q,λH' z s' e' r=>⟨J,as.map V.ref,s' _ _<|s4 _ _ eD,?_,as++[x],λc o e=>?_,by rw[Cv];exact bw,?_,λa ha=>?_,?_⟩,λ_ _ e=>nomatch e⟩
  ·rw[cf.bH hb,kJ]
   exact wq (dN (Yq _ _) km.2.1) dc
  ·rw[bJ<|dy e hD]
   exact s' _ _ (s4 _ _<|sm _ _ e)
  ·refine List.nodup_append.mpr ⟨nd,by simp,λa ha b uL e=>?_⟩
   have uL:b=x:=by simpa using uL
   subst uL e;obtain⟨i,hi⟩:=PL ha;obtain⟨y,_,a',_,_,_,_,_,_,_,_,ea,hh,_⟩:=cf.get hb (i:=i) (v:=.ref a) (by rw[m8,hi];rfl)
   cases ea
   rw[s4 _ _ hh] at n0
   cases n0
  ·rcases List.mem_append.mp ha with ha|ha
   ·exact fr a ha
   ·have ha:a=x:=by simpa using ha
    subst ha;exact⟨(sm.trans s4).free n0,λz=>by rw[z,s4 _ _ eD] at n0;cases n0⟩
  ·cases e'
   have si:fO H'<|aC H' D (.lst<|as.map V.ref++[V.ref x]):=fO.aC (by rw[s' _ _<|s4 _ _ eD];trivial);show cf _ ((as++[x]).map V.ref) _;rw[Cv,Bw.take_snoc wW];exact(cf.imp (λv y h=>uS _ _ _ _ ((s4.trans s').i.trans si) h) hb).snoc<|uS.up si r
 obtain⟨as,sm,eD,nd,fr,hb⟩:=I;rw[a2.bH,mi] at hb;have D0:U D=ah:=hD;have iL:∀{Hc:Hp},az U Hc->SqL K Hc p3 sv/\SqL K Hc p5 O:=λs=>⟨s.seq<|s1.seq sO,s.seq Bj⟩;refine⟨_,J,_,J,p3,p5,sv,O,J,(iL sm).1,(iL sm).2,?_⟩;refine RZ (K:=K) (xs:=sv) (ys:=O) (by rw[a3.bH,a5.bH];exact fw.symm) (λj aS H'=>E3 λ(x7 x8:au V)(gG:af fu)=>A6 (aS=[L w1,L<|.ref p2,L<|.ref p3,L w4,L w5,L<|.ref p5,L<|.ref D,x7,x8,ah]) (az U H') (H' D=L (.lst<|as.map V.ref)) (iR K CB k H' as gG) (dY (λbs(x:ke×au Ax)=>C4 k dt bs x.1 x.2) bs ((ss.zip ps).take j)=L gG)<|gG.length=bs.length)
  ⟨ah,ah,bs,J,sm,eD,hb,by rw[m9];rfl,J⟩ (λj aS H' _ mX=>by obtain⟨_,_,_,_,sm,_⟩:=mX;exact iL sm) (λj x y T aS H' hx hy I hT=>?_) λaS H' I=>?_
 ·obtain⟨x7,x8,gG,rfl,sm,eD,hb,ef,hl⟩:=I
  obtain⟨sp,hsp',rsp⟩:=a3.get hx;obtain⟨po,hpo,rpo⟩:=a5.get hy;have hz:(ss.zip ps)[j]? =L (sp,po):=by rw[PM];exact⟨hsp',hpo⟩
  have sT:az H' (aC H' T<|.tup [x,y]):=az.new hT;have lh:=sm.trans sT;refine AZ bw ?_;have hb:=hb.same sT;have eD:=sT _ _ eD;rcases rpo with⟨rfl,rfl⟩|⟨p,rfl,rp⟩
  ·refine⟨_,J,J,_,J,?_⟩
   refine pX ?_;exact⟨L x,L .cu,gG,J,lh,eD,hb,by rw[Bw.Lf hz ef];rfl,hl⟩
  ·obtain⟨pa,pdx,e0,e1,e2,rfl,hpa,_⟩:=id rp
   refine⟨_,J,J,_,J,?_⟩;refine jJ ?_;sleep 3;obtain⟨Fb,Fd,so3⟩:=km.1 sp<|j' hsp';sleep 4;obtain⟨sa,sdx,f2,f3,f4,f5,f6,rfl,hsa,_⟩:=id rsp;have Fb:sp.one<gG.length:=by rw[hl];exact Fb
   have Fd:sp.other<gG.length:=by rw[hl];exact Fd
   obtain⟨a,ha,ra⟩:=hb.get Fb;obtain⟨c,hc,rc⟩:=hb.get Fd
   have Ba:a≠c:=λz=>so3 (by
    subst z
    exact HA nd ha hc)
   have SG:=(s1.trans lh) _ _ hsa;have Zx:uy (as.map V.ref) (sp.one:ae)=L (V.ref a):=uz (by rw[m8,ha];rfl);have Zy:uy (as.map V.ref) (sp.other:ae)=L (V.ref c):=uz (by rw[m8,hc];rfl);refine⟨_,J,_,J,_,J,_,J,sa,CS,sdx,_,_,J,SG,TS.cl,TS.na _ dk,by unfold oX;sleep 1,D,_,_,_,J,J,SqL.of eD,Zx,_,J,_,J,sa,CS,sdx,_,_,J,SG,TS.cl,TS.na _ dk,by unfold oX;sleep 1,D,_,_,_,J,J,SqL.of eD,Zy,_,J,?_⟩;refine⟨U,_,_,_,a,c,p,gG.getD sp.one default,gG.getD sp.other default,dt,J,lh,(fr a<|j' ha).1,(fr c<|j' hc).1,Ba,aN.up s1 h1,rp,aI.up s1 h5,ra,rc,λH2 A' B' fx eA eB rA rB=>?_,λH2 s2 en=>kk.no H2 (s1.trans s2) ?_⟩
   ·have mM:cw (aC H' T<|.tup [V.ref sa,V.ref pa]) H2:=by
     obtain⟨_,_,_,_,_,_,_,_,_,ea,haa,_⟩:=ra;obtain⟨_,_,_,_,_,_,_,_,_,ec,DL,_⟩:=rc
     cases ea
     cases ec
     exact⟨λz xs e=>fx _ _ e (eJ e haa (by intro q;cases q))<|eJ e DL (by intro q;cases q),λz o u e=>fx _ _ e (eJ e haa (by intro q;cases q))<|eJ e DL (by intro q;cases q)⟩
    have keep:∀x y,x≠a->x≠c->cp K CB k (aC H' T<|.tup [V.ref sa,V.ref pa]) (.ref x) y->cp K CB k H2 (.ref x) y:=λx y n1 n2 h=>by
     obtain⟨x',dx,v0,v1,v2,v3,v4,v5,v6,ex,hxx,g0,g1,g2,g3,g4,g5,g6⟩:=h
     cases ex
     exact⟨x,dx,v0,v1,v2,v3,v4,v5,v6,J,fx _ _ hxx n1 n2,dw.up mM g0,cP.up mM g1,cP.up mM g2,qQ.up mM g3,cP.up mM g4,cP.up mM g5,cP.up mM g6⟩
    have Sq:C4 k dt gG sp (L p)=L ((gG.set sp.one A').set sp.other B'):=by
     unfold C4;simp only[eA,eB];rfl
    refine⟨L<|.ref sa,L<|.ref pa,(gG.set sp.one A').set sp.other B',J,λz o e=>fx _ _ (lh _ _ e) (dy e (fr a<|j' ha).1)<|dy e (fr c<|j' hc).1,fx _ _ eD (dB (fr a<|j' ha).2)<|dB (fr c<|j' hc).2,?_,by rw[Bw.Lf hz ef];exact Sq,by rw[Bw.Rk Sq,hl]⟩;exact hb.put2 nd so3 ha hc keep rA rB
   ·refine Option.bind_eq_none_iff.mpr λz ez=>?_
    rw[Bw.RS hz ef] at ez
    ·cases ez
    ·show C4 k dt gG sp (L p)=ah
     unfold C4;simp only;rcases en with en|en
     ·rw[en];rfl
     ·rw[en];cases AA k dt p.from_ p.push (gG.getD sp.one default)<;>rfl
 ·obtain⟨x7,x8,bs2,rfl,sm,eD,hb,ef,hl⟩:=I
  rw[a3.bH] at ef;have GK:(ss.zip ps).length=ss.length:=by rw[FI,fw];exact PZ _
  rw[<-GK,mi] at ef;have kk:bQ M (jy H<|cp K CB k) H (bf (λb=>(lT k dt b).map<|wC k wl) bs2) Q E:=kk.eq (by rw[ef];rfl);refine⟨_,J,D,J,⟨_,SqL.of eD⟩,?_⟩;have lb:=hb.bH;refine AY (K:=K) (xs:=as.map V.ref) (λj aS H'=>E2 λ(x9:au V)(zs:af fu)=>A5 (aS=[L w1,L<|.ref p2,L<|.ref p3,L w4,L w5,L<|.ref p5,L<|.ref D,x7,x8,x9]) (az U H') (H' D=L (.lst<|as.map V.ref)) (iR K CB k H' as<|zs++bs2.drop j)<|bf (λb=>(lT k dt b).map<|wC k wl) (bs2.take j)=L zs)
   ⟨ah,[],J,sm,eD,by rw[PJ];exact hb,by rw[m9];rfl⟩ (λj aS H' _ ju=>by obtain⟨_,_,_,_,eD,_⟩:=ju;exact SqL.of eD) (λj x aS H' hx I=>?_) λaS H' I=>?_
  ·obtain⟨x9,zs,rfl,sm,eD,hb,ez⟩:=I
   rw[m8] at hx
   cases ea:as[j]? with
   |none=>rw[ea] at hx;cases hx
   |some a=>
   rw[ea] at hx
   cases hx
   have hj:j<bs2.length:=by rw[<-lb];exact(List.getElem?_eq_some_iff.mp ea).1
   have wW:bs2[j]? =L (bs2.getD j default):=by simp[m7,hj]
   have lz:zs.length=j:=by rw[Bw.iQ ez,kJ];lia
   have hzj:(zs++bs2.drop j)[j]? =L (bs2.getD j default):=by
    rw[PK<|by lia,lz,Yt,X9];exact wW
   have ra:=hb.at_ ea hzj;have fa:=fr a<|j' ea;refine⟨_,J,_,J,_,J,?_⟩;have dr:∀(H2:Hp)(b':fu),gE a H' H2->((lT k dt<|bs2.getD j default).map<|wC k wl)=L b'->cp K CB k H2 (.ref a) b'->E2 λ(x9:au V)(zs:af fu)=>A5 ([L w1,L<|.ref p2,L<|.ref p3,L w4,L w5,L<|.ref p5,L<|.ref D,x7,x8,L<|V.ref a]=[L w1,L<|.ref p2,L<|.ref p3,L w4,L w5,L<|.ref p5,L<|.ref D,x7,x8,x9]) (az U H2) (H2 D=L (.lst<|as.map V.ref)) (iR K CB k H2 as<|zs++bs2.drop (j+1)) (bf (λb=>(lT k dt b).map<|wC k wl) (bs2.take<|j+1)=L zs):=λH2 b' x2 eb rb=>by
    refine⟨L<|.ref a,zs++[b'],J,x2.base sm fa.1,x2 _ _ eD<|dB fa.2,?_,?_⟩
    ·have:=hb.put nd ea (λc d n h=>Dk x2 ra n h) rb
     have e:(zs++bs2.drop j).set j b'=zs++[b']++bs2.drop (j+1):=by
      rw[Bw.Rm wW,<-lz,VV,J7,lz];rfl
     rwa[e] at this
    ·rw[BX wW,ez,eb]
     rfl
   refine⟨U,_,_,a,bs2.getD j default,dt,J,sm,fa.1,aN.up s1 h1,aI.up s1 h5,ra,λH2 A' x2 eA rA=>?_,λH2 s2 en=>kk.no H2 (s1.trans s2)<|Bw.IY wW (by rw[en];rfl)⟩;have wl2:=qR _ _ _ _ ((s1.trans<|x2.base sm fa.1).i.1) h4;rcases wl2 with⟨rfl,rfl⟩|⟨q,rfl,⟨wa,rfl⟩,rq⟩
   ·refine⟨_,J,J,_,J,?_⟩
    refine pX ?_;exact dr H2 A' x2 (by rw[eA];rfl) rA
   ·refine⟨_,J,J,_,J,?_⟩
    refine jJ ?_;refine⟨_,J,_,J,?_⟩;exact⟨_,a,A',q,J,h1.1,rq,rA,λH3 x3 r3=>dr H3 _ (x2.trans x3) (by rw[eA];rfl) r3⟩
  ·obtain⟨x9,zs,rfl,sm,eD,hb,ez⟩:=I
   have el:(as.map V.ref).length=bs2.length:=by rw[ie,lb]
   rw[el] at hb ez;rw[mi] at ez;rw[X2,pj] at hb;exact⟨_,J,kk.ok H' _ zs (s1.trans sm) ez ⟨D,_,J,eD,hb,s1.free D0⟩⟩
end
end BW
namespace BW
open PySem PySem.Spec PyProof.Rows L2
open Bw (bV cV bg cq bf j5 jt)
def vo(k:aB)(a:ag):pA:=.tuple [.int (bg k a).1,.int (bg k a).2]
def EB(k:aB)(l:af ag):pA:=.tuple (l.map<|vo k)
def BG(k:aB)(l:af<|af ag):pA:=.list (l.map<|EB k)
theorem K'{α β:Type}{f:α->pA}{h:α->β}(hf:∀x y,FW (f x) (f y)=ao->h x=h y):∀{l m:af α},FX (l.map f) (m.map f)=ao->l.map h=m.map h
 |[],[],_=>rfl
 |[],_::_,e=>by simp[FX] at e
 |_::_,[],e=>by simp[FX] at e
 |x::l,y::m,e=>by
  simp[kK,FX,eX] at e;rw[kK,kK,hf x y e.1,K' hf e.2]
theorem eqv_pd1(k:aB)(x y:ag)(h:FW (vo k x) (vo k y)=ao):bg k x=bg k y:=by
 simp only[vo,FW,FX,eX,beq_iff_eq] at h;exact Prod.ext h.1 h.2.1
theorem eqv_pdL(k:aB)(h:FW (BG k l) (BG k m)=ao):l.map (FJ<|bg k)=m.map (FJ<|bg k):=by
 refine K' (λx y e=>?_) h;exact K' (eqv_pd1 k) e
theorem KY{α:Type}{f:α->pA}(hf:∀x,CO (f x)=ao):∀l:af α,Ko (l.map f)=ao
 |[]=>by simp[Ko]
 |x::l=>by simp[kK,Ko,eX];exact⟨hf x,KY hf l⟩
theorem K4{α:Type}{f:α->pA}(hf:∀x,CQ (f x)<=n):∀l:af α,P7 (l.map f)<=n
 |[]=>by simp[P7]
 |x::l=>by
  exact Nat.max_le.mpr ⟨hf x,K4 hf l⟩
theorem VY(k:aB)(l:af<|af ag):KA (BG k l)=ao:=by
 have c1:∀x,CO (vo k x)=ao:=λx=>by simp[vo,CO,Ko]
 have c2:∀x,CO (EB k x)=ao:=λx=>by simp[EB,CO];exact KY c1 x
 have d1:∀x,CQ (vo k x)<=1:=λx=>by simp[vo,CQ,P7]
 have d2:∀x,CQ (EB k x)<=2:=λx=>by simp only[EB,CQ];exact Nat.succ_le_succ<|K4 d1 x
 unfold KA;rw[eX];refine⟨by simp[BG,CO];exact KY c2 l,dF ?_⟩;simp[BG,CQ];have:=K4 d2 l
 lia
section
variable{K:aq}{k:aB}{H:Hp}
theorem dp_c(h:RC K k H v a):Dp K H v<|vo k a:=by
 obtain⟨⟨p,rfl,hp⟩,_⟩:=h;exact .tup hp (.cons (.int _)<|.cons (.int _) .nil)
theorem K5{R:V->α->Prop}{f:α->pA}(hf:∀v x,R v x->Dp K H v (f x)):∀{vs:af V}{xs:af α},cf R vs xs->ye K H vs (xs.map f)
 |[],[],_=>.nil
 |_::_,_::_,h=>.cons (hf _ _ h.1)<|K5 hf h.2
theorem Rl(h:RL K (RT K<|RC K k) H v l):Dp K H v<|BG k l:=by
 obtain⟨p,vs,rfl,hp,ha⟩:=h;refine .lst hp<|K5 (λv x h=>?_) ha;obtain⟨q,us,rfl,hq,hb⟩:=h;exact .tup hq<|K5 (λv x h=>dp_c h) hb
theorem RJ(h:cf (RT K (RC K k) H) vs l):∀x∈l,∀a∈x,cV k a:=λx hx a ha=>by
 obtain⟨i,hi⟩:=PL hx;obtain⟨v,_,q,us,_,_,hb⟩:=h.sF hi;obtain⟨j,hj⟩:=PL ha;obtain⟨u,_,r⟩:=hb.sF hj;exact r.2
theorem Te:∀{l m:af ag},(∀a∈l,cV k a)->(∀a∈m,cV k a)->l.map (bg k)=m.map (bg k)->l=m
 |[],[],_,_,_=>rfl
 |[],_::_,_,_,h=>by cases h
 |_::_,[],_,_,h=>by cases h
 |x::l,y::m,f,g,h=>by
  simp[kK,wj] at h;rw[Bw.Z7 (f x iB).1 (g y iB).1 h.1,Te (λa ha=>f a<|gD _ ha) (λa ha=>g a<|gD _ ha) h.2]
theorem Tg:∀{l m:af (af ag)},(∀x∈l,∀a∈x,cV k a)->(∀x∈m,∀a∈x,cV k a)->l.map (FJ<|bg k)=m.map (FJ<|bg k)->l=m
 |[],[],_,_,_=>rfl
 |[],_::_,_,_,h=>by cases h
 |_::_,[],_,_,h=>by cases h
 |x::l,y::m,f,g,h=>by
  simp[kK,wj] at h;rw[Te (f x iB) (g y iB) h.1,Tg (λa ha=>f a<|gD _ ha) (λa ha=>g a<|gD _ ha) h.2]
end
section
variable{P:cO}{w:World}{K:aq}{mg:ax->au aH}{base:b9}{M CK CB CS:ak}
def wA(K:aq)(CB:ak)(k:aB):bE<|af fu:=λH v bs=>RL K (cp K CB k) H v bs/\bs.length<=4096
theorem pZ:cY<|wA K CB k:=λ_ _ _ _ s h=>⟨cE cD _ _ _ _ s h.1,h.2⟩
abbrev V_(K:aq)(M CB:ak)(k:aB):Sp:=cU M (aE (wA K CB k) cg) (RL K (RT K<|RC K k)) λx=>L<|x.1.map nz
theorem Nv:bF ["bodies","body"] ["bodies"] (ba<|aO 67):=fs
theorem MS(h:NT M E (cp K CB k) (L b) σ H te):NT M E (RT K<|RC K k) (L<|nz b) σ H<|eE CB "twenty" (vN K M CB k) [] E te b8:=NT.eq (oJ h cD (λH v dm=>by obtain⟨a,dx,v0,v1,v2,v3,v4,v5,v6,e,h,_⟩:=dm;exact⟨a,dx,_,e,h,by unfold fR;sleep 1;rfl⟩) bR) J
theorem ok_allTw(F:bh K "all_twenties" "all_twenties" (aO 67) f fd)(TB:iU K mg CB)(Cy:pq K CB "twenty" fT)(rS:∀k,aD P w K mg base (aQ P w M) 10 fT uF ["self"]<|vN K M CB k)(Dh:Binds K uF ["self"] [])(k:aB):aD P w K mg base (aQ P w M) 20 f fd ["bodies"]<|V_ K M CB k:=by
 refine F.p1 Nv λH Q E bs w1 hr h1 kk=>?_;refine⟨_,aR<|bp (oM (own:=[("body",1)]) J J J jZ J Nv.nd (jm<|O 0) bk (λ_ _ _ _ _=>eC 1 Nv.nd) (λ_ _ _ _ _=>jo) λ_ _ _ _ _=>eu (O 1) TB.cl Cy (rS k) (hr.aV dc) Dh .nil j1),?_⟩;refine kk.by<|(xA (Tq dw).i.mO (zp aI) cD (aj J (cE cD) h1.1) (dN h1.2 dc) (λ_=>J) λU v y s _ r=>MS<|aj J cD r).eq<|Bw.l9 _
abbrev Xp(K:aq)(CK CB CS:ak)(k:aB):gk<|gF×af fu×af ke×au (dR×dR)×ag×ag×gF:=rX (aE (RK CK k) (aE (RL K<|cp K CB k) (aE (RL K<|i_ K CS k)<|aE (C3 K k) (aE fH<|aE (RC K k) cg)))) λx=>ox x.2.1.length x.2.2.1/\x.2.1.length<=4096/\x.2.2.1.length<=8192/\x.2.2.2.2.1<=1000000
def fSS(k:aB)(x:gF×af fu×af ke×au (dR×dR)×ag×ag×gF):au<|af fu:=jt k x.2.2.2.2.2.1 {springs:=x.2.2.1,walls:=x.2.2.2.1} x.2.2.2.2.1 x.2.1
def yt(H0:Hp)(v0:V)(Cd:af α)(R:bE α):bE<|af α:=λH v xs=>(v=v0/\xs=Cd)\/jy H0 R H v xs
theorem yt.l{R:bE α}{xs Cd:af α}(h:yt H0 v0 Cd R H v xs)(h0:RL K R H v0 Cd):RL K R H v xs:=h.elim (λgw=>by obtain⟨e,e'⟩:=gw;rw[e,e'];exact h0) λdW=>by obtain⟨p,vs,e,h,a,_⟩:=dW;exact⟨p,vs,e,SqL.of h,a⟩
theorem Tv{R:bE α}{Cd:af α}(m:cY R):cY<|yt H0 v0 Cd R:=λ_ _ _ _ s h=>h.imp (λh=>h) λju=>by obtain⟨p,vs,e,h,a,n⟩:=ju;exact⟨p,vs,e,s _ _ h,a.imp λv x=>m _ _ _ _ s,n⟩
abbrev Ji(K:aq)(M CK CB CS:ak)(k:aB):Sp:=B1 M (Xp K CK CB CS k) (λH vs t=>yt H (vs.getD 1 .cu) t.2.1<|cp K CB k)<|fSS k
theorem IQ:bF ["kind","bodies","springs","walls","n","dt","k","later"] ["kind","bodies","springs","walls","n","dt"] (ba<|aO 68):=fs
theorem Wz{dt:ag}{w:rY}(h:j5 k dt w=L l):l.length=w.bodies.length:=by
 obtain⟨ps,_,h⟩:=Option.bind_eq_some_iff.mp h;obtain⟨bs,e,h⟩:=Option.bind_eq_some_iff.mp h;have A0:∀l s s',Bw.dY (λbs(x:ke×au Ax)=>C4 k dt bs x.1 x.2) s l=L s'->s'.length=s.length:=λl=>by
  induction l with
  |nil=>intro s s' h;cases h;rfl
  |cons a l ih=>
   intro s s' h;obtain⟨t,e1,e2⟩:=Option.bind_eq_some_iff.mp h;rw[ih t s' e2,Bw.Rk e1]
 rw[Bw.iQ h,A0 _ _ _ e]
theorem ok_several{f:ak}{fd:c7}(F:bh K "several_steps" "several_steps" (aO 68) f fd)(TC:jB mg)(A1:cX P w K mg base M 34 "one_step" ["kind","bodies","springs","walls","dt"] λk=>Oo K M CK CB CS k)(A2:cX P w K mg base M 20 "all_twenties" ["bodies"] λk=>V_ K M CB k)(k:aB):aD P w K mg base (aQ P w M) 38 f fd ["kind","bodies","springs","walls","n","dt"]<|Ji K M CK CB CS k:=by
 refine F.oc IQ λH Q E hr h=>?_;sleep 3;obtain⟨⟨_,bs,ss,wl,n,dt,_⟩,⟨ar10,km,oH,Bl,hn⟩,kk⟩:=h;sleep 4;revert kk;refine ar10.c6 λw1 w2 w3 w4 w5 w6 h1 h2 h3 h4 h5 h6 kk=>?_;subst h5;have hn:n<=1000000:=hn
 refine⟨_,aG (nZ mI J (zK J TC.range (bz<|O 4)) (eC 6 IQ.nd)
  (aG (bC 7 IQ.nd<|A1.c k hr aA (dC (O 0)<|dC (O 1) (bG (O 2) (O 3)<|O 5)))
  (aG (dU (dD (op_eqD hr.units) (A2.c k hr aA (bz<|O 7)) (A2.c k hr aA (bz<|O 1))<|cW _) (aR ps_break) d7)
  (aR (bC 1 IQ.nd<|O 7)))))<|aR (bp<|O 1),?_⟩
 have kk:bQ M (yt H w2 bs<|cp K CB k) H (jt k dt {springs:=ss,walls:=wl} n bs) Q E:=kk;refine⟨_,J,(n:ae),J,(by lia),om,?_⟩;rw[kI];refine RY (lo:=0) (n:=n) (λj aS H'=>E4 λ(x6 x7:au V)(vb:V)(bj:af fu)=>A5 (aS=[L w1,L vb,L w3,L w4,L<|.int (n:ae),L w6,x6,x7]) (az H H') (yt H w2 bs (cp K CB k) H' vb bj) (bj.length=bs.length)<|jt k dt {springs:=ss,walls:=wl} n bs=jt k dt {springs:=ss,walls:=wl} (n-j) bj)
  ⟨ah,ah,w2,bs,J,az.refl _,.inl ⟨J,J⟩,J,J⟩ (λj aS H' hj I=>?_) λaS H' I=>?_
 ·obtain⟨x6,x7,vb,bj,rfl,sm,rb,hl,es⟩:=I
  have hsb:ox bj.length ss:=by rw[hl];exact km
  have esn:n-j=(n-(j+1))+1:=by lia
  have es:jt k dt {springs:=ss,walls:=wl} n bs=(j5 k dt {bodies:=bj,springs:=ss,walls:=wl}).bind (jt k dt {springs:=ss,walls:=wl}<|n-(j+1)):=by rw[es,esn];rfl
  have n1:NT M E (jy H'<|cp K CB k) _ [L w1,L vb,L w3,L w4,L<|.int (n:ae),L w6,L (.int<|0+(j:ae)),x7] H' _:=nt_callF (f:=Ry k) (nW (c:=λx=>ox x.2.1.length x.2.2.1/\x.2.1.length<=4096/\x.2.2.1.length<=8192) (aF aN (aj (i:=0) J aN<|aN.up sm h1) (aF (cE cD) (aj (i:=1) J (cE cD) (rb.l<|cE cD _ _ _ _ sm h2)) (aF (cE eO.m) (aj (i:=2) J (cE eO.m)<|cE eO.m _ _ _ _ sm h3) (aF qR.i.m (aj (i:=3) J qR.i.m<|qR.i.m.up sm h4)<|aF aI (aj (i:=5) J aI<|aI.up sm h6) bR)))) λy e=>by cases e;exact⟨hsb,by rw[hl];exact oH,Bl⟩);refine bQ.bindB (kk.eq es) sm n1 λD3 u7 U s1 el q1 L4=>?_;have q1:yt H w2 bs (cp K CB k) U u7 D3:=.inr (by obtain⟨p,us,e1,e2,e3,e4⟩:=q1;exact⟨p,us,e1,e2,e3,sm.free e4⟩);have ll:D3.length=bs.length:=by rw[Wz el];exact hl
  have V4:=sm.trans s1;have n2:NT M E (RL K (RT K<|RC K k)) _ [L w1,L vb,L w3,L w4,L<|.int (n:ae),L w6,L (.int<|0+(j:ae)),L u7] U _:=cT (t:=L (D3,())) (f:=λx=>L<|x.1.map nz)<|aF pZ (aj (i:=7) J pZ ⟨q1.l<|cE cD _ _ _ _ V4 h2,by rw[ll];exact oH⟩) bR;refine n2.go λua H2 s2 qa=>?_;have n3:NT M E (RL K (RT K<|RC K k)) (L<|bj.map nz) [L w1,L vb,L w3,L w4,L<|.int (n:ae),L w6,L (.int<|0+(j:ae)),L u7] H2 _:=cT (t:=L (bj,())) (f:=λx=>L<|x.1.map nz)<|aF pZ (aj (i:=1) J pZ ⟨cE cD _ _ _ _ (s1.trans s2) (rb.l<|cE cD _ _ _ _ sm h2),by rw[hl];exact oH⟩) bR;refine n3.go λub H3 s3 qb=>?_;have qa:=cE (zp aI) _ _ _ _ s3 qa;have V5:=(V4.trans s2).trans s3;refine⟨_,_,Rl qa,Rl qb,VY k _,VY k _,_,J,d6 (λc=>?_) λc=>?_⟩
  ·have e:=eqv_pdL k c
   obtain⟨_,va,_,_,fa⟩:=qa;obtain⟨_,mV,_,_,fb⟩:=qb;have e2:=Bw.Tf<|Tg (RJ fa) (RJ fb) e;subst e2;refine⟨_,J,kk.ok H3 _ D3 V5 ?_<|Tv cD _ _ _ _ ((s1.trans s2).trans s3) rb⟩;rw[es,el];exact Bw.WB el _
  ·refine⟨_,J,?_⟩
   exact⟨L (.int<|0+(j:ae)),L u7,u7,D3,J,V5,Tv cD _ _ _ _ (s2.trans s3) q1,ll,by rw[es,el];rfl⟩
 ·obtain⟨x6,x7,vb,bj,rfl,sm,rb,hl,es⟩:=I
  rw[Yt] at es;exact⟨_,J,kk.ok H' _ bj sm es rb⟩
end
end BW
namespace BW
open PySem PySem.Spec PyProof.Rows L2
open Bw (bV cV bg cq bf dY gN ku dE fj)
section
variable{α β:Type}{K:aq}{C:ak}{R:bE α}{R':bE β}{H:Hp}{E:XK}{σ:L2.St}
theorem HU(st:ur R)(m:cY R)(m':cY R')(h0:NT C E (RL K R') (L ys) σ H tl)(dJ:ys.length<=bI)
 (hw:∀v,da ((da σ vs).set i<|L v) vs=da σ vs) (he:∀U v y,az H U->y∈ys->R' U v y->NT C E R (f y) ((da σ vs).set i<|L v) U te):
 NT C E (fG R) (bf f ys) σ H<|mP (zf K tl) (eI i) oZ te vs:=λU Q s k=>by
 refine(h0.at_ s).go λv H2 s2 q=>?_;obtain⟨p,us,rfl,hp,ha⟩:=q;refine⟨p,J,⟨us,hp⟩,λD hD=>?_⟩;have k2:=k.at_ s2;have kx:bQ C (RL K R) H2 _ (λ_ _=>jb) E:=⟨λ_ _ _ _ _ _=>ck,k2.no⟩;refine Hs (ff D H2 R f ys) (ff.start hD) (λj Hc _ I=>I.same.seq hp) (λj x Hc hx I=>?_) λHc I=>?_
 ·obtain⟨y,hy,ry⟩:=ha.get hx
  refine⟨hw x,?_⟩;exact ff.step st m hD dJ kx hy I<|he Hc x y (s.trans<|s2.trans I.same) (j' hy)<|m' _ _ _ _ I.same ry
 ·rw[ha.bH] at I
  obtain⟨sm,d8,zs,e1,a1,e2⟩:=I;rw[mi] at e2;exact k2.ok Hc _ zs sm e2 ⟨D,d8,J,e1,a1⟩
theorem nt_lcRs{i n:ag}(st:ur R)(m:cY R)(h0:NA C E (aE (λ_ v j=>v= .int j) cg) (L (n,())) σ H ta)(dJ:n<=bI)
 (hw:∀v,da ((da σ vs).set i<|L v) vs=da σ vs) (he:∀U j,az H U->j<n->NT C E R (f j) ((da σ vs).set i (L<|.int j)) U te):
 NT C E (fG R) (bf f<|iC n) σ H<|mP (Hi ta) (eI i) oZ te vs:=λU Q s k=>by
 refine h0 U _ s ⟨λH2 us y s2 e q=>?_,λH2 s2 e=>nomatch e⟩
 cases e
 obtain⟨v,r,rfl,e1,e2⟩:=q;subst e1;subst e2;have hz:bI<2^62:=by decide
 refine⟨n,J,(by lia),(by lia),λD hD=>?_⟩;have k2:=k.at_ s2;have kx:bQ C (RL [] R) H2 _ (λ_ _=>jb) E:=⟨λ_ _ _ _ _ _=>ck,k2.no⟩;rw[kI];refine Ht (ff D H2 R f<|iC n) (ff.start hD) (λj Hc hj I=>?_) λHc I=>?_
 ·refine⟨hw _,?_⟩
  rw[wc];exact ff.step st m hD (by rw[wm];exact dJ) kx (by simp[hj]) I<|he Hc j (s.trans<|s2.trans I.same) hj
 ·have I':ff D H2 R f (iC n) (iC n).length Hc:=by rw[wm];exact I
  obtain⟨sm,d8,zs,e1,a1,e2⟩:=I';rw[mi] at e2;exact k2.ok Hc _ zs sm e2 ⟨D,d8,J,e1,a1⟩
end
section
variable{P:cO}{w:World}{K:aq}{mg:ax->au aH}{base:b9}{M CK CB CS:ak}
abbrev spWN(K:aq)(M CK:ak)(k:aB):Sp:=cU M (aE (RK CK k) (aE (RC K k)<|aE (RC K k) cg)) (RC K k) λx=>eY k x.2.1 x.2.2.1
abbrev spWP(K:aq)(M CK:ak)(k:aB):Sp:=cU M (aE (RK CK k) (aE (RC K k)<|aE (jf K k) cg)) (RC K k) λx=>fj k x.2.1 x.2.2.1
theorem scWN:bF ["kind","s","x"] ["kind","s","x"] (ba<|aO 70):=fs
theorem scWP:bF ["kind","s","pair"] ["kind","s","pair"] (ba<|aO 71):=fs
theorem ok_wn(F:bh K "with_number_added" "with_number_added" (aO 70) f fd)(aJ:KM P w K mg base M CK)(k:aB):aD P w K mg base (aQ P w M) 10 f fd ["kind","s","x"]<|spWN K M CK k:=by
 obtain⟨f1,bZ,M1,b1,O1⟩:=aJ.add;refine F.p3 scWN λH Q E _ a b w1 w2 w3 hr h1 h2 h3 kk=>?_;refine⟨_,aR (bp<|bW (O 0) aJ.T.cl M1 (O1 k) (hr.aV dc) b1 .nil aA (bK (O 1)<|O 2)),?_⟩;exact kk.by (uW h1.1 (aj J aN h1) (aj J aI h2)<|aj J aI h3)
theorem ok_wp(F:bh K "with_product_added" "with_product_added" (aO 71) f fd)(aJ:KM P w K mg base M CK)(k:aB):aD P w K mg base (aQ P w M) 10 f fd ["kind","s","pair"]<|spWP K M CK k:=by
 obtain⟨f1,bZ,M1,b1,O1⟩:=aJ.ma;refine F.p3 scWP λH Q E _ a p w1 w2 w3 hr h1 h2 h3 kk=>?_;refine⟨_,aR (bp<|bW (O 0) aJ.T.cl M1 (O1 k) (hr.aV dc) b1 .nil aA (bG (aX<|O 2) (aX<|O 2)<|O 1)),?_⟩;have v2:NT M E _ _ [L w1,L w2,L w3] H<|aw 2:=aj J gI h3;have i0:=kC 0 v2 λ_ _ dW=>by obtain⟨a,x,y,e,r,h1,h2⟩:=dW;exact⟨a,_,x,e,r,J,h1⟩
 have i1:=kC 1 v2 λ_ _ dm=>by obtain⟨a,x,y,e,r,h1,h2⟩:=dm;exact⟨a,_,y,e,r,J,h2⟩
 exact kk.by<|uZ (g:=uo k) HD (aj J aN h1) i0 i1 ((aj J aI h2).cZ λ_ _ _=>dS h1.1)
def Qj(K:aq)(k:aB)(n:ag):bE<|af ag:=λH v l=>RL K (RC K k) H v l/\l.length=2^n
theorem Tu:cY<|Qj K k n:=λ_ _ _ _ s h=>⟨cE aI _ _ _ _ s h.1,h.2⟩
abbrev spFo(K:aq)(M CK:ak)(k:aB)(n:ag):Sp:=cU M (aE (RK CK k)<|aE (Qj K k n) cg) (RC K k) λx=>(jX (eY k) n x.2.1).map λr=>r.headD 0
theorem EV:bF ["kind","lanes","half","j"] ["kind","lanes"] (ba<|aO 72):=fs
theorem ok_folded{f:ak}{fd:c7}(F:bh K "folded" "folded" (aO 72) f fd)(TC:jB mg)(aJ:KM P w K mg base M CK)(k:aB)(n:ag)(hn:n<=4):aD P w K mg base (aQ P w M) 14 f fd ["kind","lanes"]<|spFo K M CK k n:=by
 obtain⟨f1,bZ,M1,b1,O1⟩:=aJ.add;refine F.p2 EV λH Q E _ l0 w1 w2 hr h1 gY kk=>?_;obtain⟨h2,DO⟩:=gY
 refine⟨_,aG (M_ mI (dD vh (jL oB J TC.bH pO (bz<|O 1)) a_<|cW _)
  (aG (bC 2 EV.nd<|bO Ex (jL oB J TC.bH pO (bz<|O 1)) a_)
  (aR (bC 1 EV.nd<|oM (own:=[("j",3)]) (te:=eE CK "plus" (rg K M CK k<|eY k) [] E (aw 0) (aU (bY (kZ K) (aw 1)<|aw 3) (aU (bY (kZ K) (aw 1)<|bY (gu λi j=>.int<|i+j) (aw 3)<|aw 2) b8))) J J J jZ J EV.nd (zK J TC.range (bz<|O 2)) bk (λ_ _ _ _ _=>eC 3 EV.nd) (λ_ _ _ _ _=>jo)
    (λ_ _ _ _ _=>bW (O 0) aJ.T.cl M1 (O1 k) (hr.aV dc) b1 .nil j1<|bK (d4 kr (O 1) (O 3) λ_ _=>J) (d4 kr (O 1) (bO fC (O 3)<|O 2) λ_ _=>J))))))
  (aR (bp<|d4 kr (O 1) a_ λ_ _=>J)),?_⟩
 have kk:bQ M (RC K k) H ((jX (eY k) n l0).map λr=>r.headD 0) Q E:=kk;have DO:l0.length=2^n:=DO;refine⟨λm aS H'=>∃(x2 x3:au V)(vl:V)(l:af ag),aS=[L w1,L vl,x2,x3]/\az H H'/\RL K (RC K k) H' vl l/\l.length=2^m/\m<=4/\jX (eY k) n l0=jX (eY k) m l,⟨n,ah,ah,w2,l0,J,az.refl _,h2,DO,hn,J⟩,?_⟩
 rintro m aS H' ⟨x2,x3,vl,l,rfl,sm,rl,hl,hm,ef⟩
 obtain⟨p,lv,rfl,hp,ha⟩:=id rl;have dJ:=ha.bH;refine⟨_,J,p,lv,J,.inl hp,_,_,J,J,_,J,?_⟩
 cases m with
 |zero=>
  have e1:lv.length=1:=by rw[dJ,hl]
  rw[e1];refine pX ?_;obtain⟨a,t,rfl,g⟩:=oC (n:=0) (show l.length=0+1 by rw[hl]);have g:t=[]:=oo g;subst g;obtain⟨u,hu,ru⟩:=ha.sF (i:=0) (x:=a) J;refine⟨_,J,p,lv,0,u,J,J,hp,uz (j:=0) hu,kk.ok H' _ a sm (by rw[ef];rfl) ru⟩
 |succ m=>
  have e1:(lv.length:ae)=2^(m+1):=by rw[dJ,hl];simp
  have e2:(2:ae)^(m+1)=2*2^m:=by rw[Int.pow_succ];lia
  have e3:(1:ae)<=2^m:=by have:=Bw.mE m;lia
  have hc:decide ((1:ae)<(lv.length:ae))=ao:=dF om;rw[hc];refine jJ ?_;refine⟨λaS H'=>∃(x2 x3:au V)(vl:V)(l:af ag),aS=[L w1,L vl,x2,x3]/\az H H'/\RL K (RC K k) H' vl l/\l.length=2^m/\m<=4/\jX (eY k) n l0=jX (eY k) m l,λaS H' h=>⟨m,FP _,h⟩,?_⟩;refine⟨_,J,p,lv,J,.inl hp,_,_,J,J,⟨by show(0:ae)<2;decide,dc⟩,?_⟩;have eh:(lv.length:ae)/2=((2^m:ag):ae):=by rw[e1,e2];simp
  have hz:2^m<=16:=dN (ka dc (by omega:m<=4)) dc;dsimp only[eI];rw[eh];have fs:=Bw.AX 0 (eY k) m hl;have kk2:bQ M (RC K k) H ((bf (λj=>eY k (l.getD j 0)<|l.getD (j+2^m) 0) (iC<|2^m)).bind λl'=>(jX (eY k) m l').map λr=>r.headD 0) Q E:=kk.eq (by rw[ef,fs];cases bf (λj=>eY k (l.getD j 0)<|l.getD (j+2^m) 0) (iC<|2^m)<;>rfl);have nl:=Uk (K:=K) (R:=RC K k) (C:=M) (E:=E) (H:=H') (i:=3) (n:=2^m) (vs:=[3]) (ta:=aU (aw 2) b8) (f:=λj=>eY k (l.getD j 0)<|l.getD (j+2^m) 0) dw.i.mO aI
   (aF (λ_ _ _ _ _ h=>h) (aj (i:=2) (y:=((2^m:ag):ae)) J (λ_ _ _ _ _ h=>h) J) bR) (dN hz dc) (λ_=>J) λU j s1 hj=>by
     have i3:NT M E fH (L j) ((da [L w1,L<|.ref p,L<|.int ((2^m:ag):ae),x3] [3]).set 3 (L<|.int (j:ae))) U<|aw 3:=aj J iq J;have i2:NT M E fH (L<|2^m) ((da [L w1,L<|.ref p,L<|.int ((2^m:ag):ae),x3] [3]).set 3 (L<|.int (j:ae))) U<|aw 2:=aj J iq J;have i1:NT M E (RL K<|RC K k) (L l) ((da [L w1,L<|.ref p,L<|.int ((2^m:ag):ae),x3] [3]).set 3 (L<|.int (j:ae))) U<|aw 1:=aj J (cE aI) (cE aI _ _ _ _ s1 rl);have g1:l[j]? =L (l.getD j 0):=by simp[m7,show j<l.length by omega]
     have g2:l[j+2^m]? =L (l.getD (j+2^m) 0):=by simp[m7,show j+2^m<l.length by omega]
     exact uW h1.1 (aj (i:=0) J aN<|aN _ _ _ _ (sm.trans s1) h1) (qU aI i1 i3 g1)<|qU aI i1 (HL i3 i2) g2
  refine bQ.bindB kk2 sm nl λl' u U s1 el q1 _=>?_;refine⟨L<|.int ((2^m:ag):ae),x3,u,l',J,sm.trans s1,q1,by rw[Bw.iQ el,wm],om,?_⟩;rw[ef,fs,el];rfl
end
end BW
namespace BW
open PySem PySem.Spec PyProof.Rows L2
open Bw (bV cV bg cq bf dY gN ku dE fj)
section
variable{α β:Type}{K:aq}{C:ak}{R:bE α}{R':bE β}{H:Hp}{E:XK}{σ:L2.St}
theorem Ul(st:ur R)(m:cY R)(m':cY R')(h0:NT C E (RL K R') (L ys) σ H tl)(dJ:ys.length<=bI)
 (hw:∀v,da ((da σ vs).set i<|L v) vs=da σ vs) (he:∀U v y,az H U->y∈ys->R' U v y->NT C E R (f y) ((da σ vs).set i<|L v) U te):
 NT C E (jy H R) (bf f ys) σ H<|mP (zf K tl) (eI i) oZ te vs:=λU Q s k=>by
 refine(h0.at_ s).go λv H2 s2 q=>?_;obtain⟨p,us,rfl,hp,ha⟩:=q;refine⟨p,J,⟨us,hp⟩,λD hD=>?_⟩;have k2:=k.at_ s2;have kx:bQ C (RL K R) H2 _ (λ_ _=>jb) E:=⟨λ_ _ _ _ _ _=>ck,k2.no⟩;refine Hs (ff D H2 R f ys) (ff.start hD) (λj Hc _ I=>I.same.seq hp) (λj x Hc hx I=>?_) λHc I=>?_
 ·obtain⟨y,hy,ry⟩:=ha.get hx
  refine⟨hw x,?_⟩;exact ff.step st m hD dJ kx hy I<|he Hc x y (s.trans<|s2.trans I.same) (j' hy)<|m' _ _ _ _ I.same ry
 ·rw[ha.bH] at I
  obtain⟨sm,d8,zs,e1,a1,e2⟩:=I;rw[mi] at e2;exact k2.ok Hc _ zs sm e2 ⟨D,d8,J,e1,a1,(s.trans s2).free hD⟩
theorem nt_lcRf{i n:ag}(st:ur R)(m:cY R)(h0:NA C E (aE (λ_ v j=>v= .int j) cg) (L (n,())) σ H ta)(dJ:n<=bI)
 (hw:∀v,da ((da σ vs).set i<|L v) vs=da σ vs) (he:∀U j,az H U->j<n->NT C E R (f j) ((da σ vs).set i (L<|.int j)) U te):
 NT C E (jy H R) (bf f<|iC n) σ H<|mP (Hi ta) (eI i) oZ te vs:=λU Q s k=>by
 refine h0 U _ s ⟨λH2 us y s2 e q=>?_,λH2 s2 e=>nomatch e⟩
 cases e
 obtain⟨v,r,rfl,e1,e2⟩:=q;subst e1;subst e2;have hz:bI<2^62:=by decide
 refine⟨n,J,(by lia),(by lia),λD hD=>?_⟩;have k2:=k.at_ s2;have kx:bQ C (RL [] R) H2 _ (λ_ _=>jb) E:=⟨λ_ _ _ _ _ _=>ck,k2.no⟩;rw[kI];refine Ht (ff D H2 R f<|iC n) (ff.start hD) (λj Hc hj I=>?_) λHc I=>?_
 ·refine⟨hw _,?_⟩
  rw[wc];exact ff.step st m hD (by rw[wm];exact dJ) kx (by simp[hj]) I<|he Hc j (s.trans<|s2.trans I.same) hj
 ·have I':ff D H2 R f (iC n) (iC n).length Hc:=by rw[wm];exact I
  obtain⟨sm,d8,zs,e1,a1,e2⟩:=I';rw[mi] at e2;exact k2.ok Hc _ zs sm e2 ⟨D,d8,J,e1,a1,(s.trans s2).free hD⟩
end
theorem Rh(hk:bV k):bg k 0=(0,0)/\cV k 0:=⟨by rcases hk with rfl|rfl<;>decide,(Bw.Ve hk).fits⟩
section
variable{P:cO}{w:World}{K:aq}{mg:ax->au aH}{base:b9}{M CK CB CS:ak}
theorem nt_modN(hb:0<b)(h1:NT M E fH (L a) σ H t1)(h2:NT M E fH (L b) σ H t2):NT M E fH (L<|a%b) σ H<|bY (rI (λ_ j=>0<j) λi j=>.int<|i%j) t1 t2:=λU Q s k=>by
 refine(h1.at_ s).go λv H2 s2 q=>(h2.at_<|s.trans s2).go λu H3 s3 q3=>?_;exact⟨a,b,q,q3,(by lia),k.ok _ _ _ (s2.trans s3) J<|by congr 1⟩
theorem Uj(T:jg K mg M CK)(h:NT M E (RK CK k) (L ()) σ H te):NT M E fH (L k.lanes) σ H<|c9 K te "lanes":=gB h λ_ _ dm=>by obtain⟨_,a,dx,e,q⟩:=dm;exact⟨a,CK,dx,_,_,e,q,T.cl,T.TY,kf_lanes k,J⟩
abbrev zZ(K:aq)(M CK fT:ak)(k:aB)(Rp:bE β)(t:ag->β->au ag):Sp:=cU M (rX (aE (RK CK k) (aE (RL K Rp)<|aE (RF fT) cg)) λx=>x.2.1.length<=8192) (RC K k) λx=>dE k t x.2.1
theorem BS:bF ["kind","parts","take_in","lanes","k","part","j"] ["kind","parts","take_in"] (ba<|aO 73):=fs
theorem UH{β:Type}{f f1 fT:ak}{fd bZ uF:c7}{pT:af ax}(F:bh K "side_by_side" "side_by_side" (aO 73) f fd)(TC:jB mg)(aJ:KM P w K mg base M CK)(G1:Gf K mg "folded" (aO 72) f1 bZ ["kind","lanes"])(k:aB){Rp:bE β}(mp:lD Rp)(t:ag->β->au ag)
 (OT:aD P w K mg base (aQ P w M) 10 fT uF pT<|cU M (aE (RK CK k) (aE (RC K k)<|aE Rp cg)) (RC K k) λx=>t x.2.1 x.2.2.1) (kT:jx K (.ref fT)=ao) (bT:Binds K uF pT []):aD P w K mg base (aQ P w M) 18 f fd ["kind","parts","take_in"]<|zZ K M CK fT k Rp t:=by
 obtain⟨za,zm,zq⟩:=aJ.T.pz;have OF:=λn hn=>ok_folded (P:=P) (w:=w) (base:=base) G1.F TC aJ k n hn;refine F.oc BS λH Q E hr h=>?_;sleep 3;obtain⟨⟨_,ps,_,_⟩,⟨ar11,dJ⟩,kk⟩:=h;sleep 4;refine ar11.c3 λw1 w2 w3 h1 h2 h3=>?_;have h3:w3= .ref fT:=h3;subst h3;have dJ:ps.length<=8192:=dJ;have hk:=h1.1;obtain⟨lp,l0,l16⟩:=Bw.xf hk;have w8:nk k.lanes<=4:=by rcases hk with rfl|rfl<;>decide
 refine⟨_,aG (BJ (i:=3) (own:=[("j",6)]) J J J jZ J BS.nd J J (B7 J J J J) (zK J TC.range<|bz (bu<|O 0)) bk (λ_ _ _ _ _=>eC 6 BS.nd) (λ_ _ _ _ _=>jo) λ_ _ _ _ _=>dH J zm (v:=.ref za) J)
  (aG (nZ mI J (M5 J TC.K9 (bz<|O 1)) (BH J (qk (eC 4 BS.nd)<|qk (eC 5 BS.nd) BI))
    (aG (bC 6 BS.nd<|bO Ih (O 4) (bu<|O 0))
    (aR<|zM (zI (O 2) OT (hr.aV dc) kT bT aA (bG (O 0) (d4 kr (O 3) (O 6) λ_ _=>J)<|O 5))<|zJ (O 3) (O 6) zW)))
  (aR (bp<|cM (OF (nk k.lanes) w8) (hr.aV dc) J G1.m G1.F.kp G1.b .nil aA (bK (O 0)<|O 3)))),?_⟩
 have v0:∀{σ:L2.St}{Hc:Hp},σ[0]? =L (L w1)->az H Hc->NT M E (RK CK k) (L ()) σ Hc (aw 0):=λe s=>aj e aN<|aN.up s h1;have nLn:NT M E (λ_ v(j:ae)=>v=V.int j) (L ((k.lanes:ag):ae)) [L w1,L w2,L<|.ref fT,ah,ah,ah,ah] H<|c9 K (aw 0) "lanes":=(Uj aJ.T<|v0 J sr).conv λ_ _ h=>h;have n0:=nt_lcRf (R:=RC K k) (C:=M) (E:=E) (H:=H) (i:=6) (n:=k.lanes) (vs:=[6]) (ta:=aU (c9 K (aw 0) "lanes") b8) (te:=tC<|.ref za) (f:=λ_=>L 0) dw.i.mO aI
  (aF (λ_ _ _ _ _ h=>h) nLn bR) (dN l16 dc) (λ_=>J) λU j s1 _=>iP aI ⟨by rw[(Rh hk).1];exact⟨za,J,zq U⟩,(Rh hk).2⟩
 have n0:=n0.eq (show _=L (Aj k.lanes 0) by rw[Bw.l9 (f:=λ_=>0),show(λ(_:ag)=>(0:ag))=Function.const ag 0 from J,List.map_const,wm]);refine j3 n0 λv3 U s1⟨cN,lv,e,eL,aL,hL⟩=>?_;subst e;obtain⟨pP,O,rfl,hpP,aP⟩:=h2;refine⟨_,J,pP,O,J,s1.seq hpP,?_⟩;have kk:bQ M (RC K k) H (((dY (gN 0 k.lanes t) (Aj k.lanes 0,0) ps).map λs=>s.1).bind λs=>(jX (eY k) (nk k.lanes) s).map λr=>r.headD 0) Q E:=kk;refine Lh (K:=K) (xs:=O) (λj aS H'=>E5 λ(x4 x5 x6:au V)(lv:af V)(ls:af ag)=>A6 (aS=[L w1,L<|.ref pP,L<|.ref fT,L<|.ref cN,x4,x5,x6]) (az H H') (H' cN=L (.lst lv)) (cf (RC K k H') lv ls) (dY (gN 0 k.lanes t) (Aj k.lanes 0,0) (ps.take j)=L (ls,j))<|ls.length=k.lanes)
  ⟨ah,ah,ah,lv,_,J,s1,eL,aL,by rw[m9];rfl,by simp⟩ (λj aS H' _ ju=>by obtain⟨_,_,_,_,_,_,sm,_⟩:=ju;exact sm.seq hpP) (λj x T aS H' hx I hT=>?_) λaS H' I=>?_
 ·obtain⟨x4,x5,x6,lv,ls,rfl,sm,eL,aL,ef,Bg⟩:=I
  sleep 3;obtain⟨y,hy,ry⟩:=aP.get hx;sleep 4;have sT:az H' (aC H' T<|.tup [.int (j:ag),x]):=az.new hT;have lh:=sm.trans sT;refine AZ bw ?_;have hm:j%k.lanes<k.lanes:=rP _ l0;have nm:=nt_modN (M:=M) (E:=E) (σ:=[L w1,L<|.ref pP,L<|.ref fT,L<|.ref cN,L<|.int (j:ag),L x,x6]) (H:=aC H' T<|.tup [.int (j:ag),x]) (a:=j) (b:=k.lanes) l0 (aj (i:=4) J iq J) (Uj aJ.T<|v0 J lh);refine j3 nm λvj H2 s2 qj=>?_;have qj:vj= .int ((j%k.lanes:ag):ae):=qj;subst qj;have dP:=lh.trans s2;have Dy:=(sT.trans s2) _ _ eL;have QA:=aL.imp λv x=>aI _ _ _ _<|sT.trans s2;have gl:ls[j%k.lanes]? =L (ls.getD (j%k.lanes) 0):=by simp[m7,Bg,hm]
  have nl:NT M E (RC K k) (L<|ls.getD (j%k.lanes) 0) [L w1,L<|.ref pP,L<|.ref fT,L<|.ref cN,L<|.int (j:ag),L x,L<|.int ((j%k.lanes:ag):ae)] H2 (bY (kZ K) (aw 3)<|aw 6):=qU aI (aj (i:=3) J (cE aI) ⟨cN,lv,J,SqL.of Dy,QA⟩) (aj (i:=6) J iq J) gl;have nt':NT M E (RC K k) (t (ls.getD (j%k.lanes) 0) y) _ H2 _:=Ue (fD:=fT) (t:=L ((),ls.getD (j%k.lanes) 0,y,())) (f:=λx=>t x.2.1 x.2.2.1) (aj (i:=2) J kU J)<|aF aN (v0 J dP) (aF aI nl<|aF mp.m (aj (i:=5) J mp.m<|mp.m _ _ _ _ dP ry) bR);have wR:∀z,t (ls.getD (j%k.lanes) 0) y=z->gN 0 k.lanes t (ls,j) y=z.map λu=>(ls.set (j%k.lanes) u,j+1):=λz e=>by unfold gN;show(t (ls.getD (j%k.lanes) 0) y).map _=_;rw[e]
  refine nt' H2 _ sr ⟨λH3 u z s3 ez qz=>?_,λH3 s3 ez=>kk.no H3 (dP.trans s3) (by rw[Bw.RS hy ef (by rw[wR ah ez];rfl)];rfl)⟩;have uE:=s3 _ _ Dy;have zh:kQ lv.length ((j%k.lanes:ag):ae)=L (j%k.lanes):=by unfold kQ;have:=aL.bH;rw[aK<|by lia,aK<|by lia,kI]
  refine⟨_,J,_,J,cN,lv,_,_,J,J,uE,zh,?_⟩;have t3:cw H3<|aC H3 cN (.lst<|lv.set (j%k.lanes) u):=cw.aC (by rw[uE];trivial);refine⟨L<|.int (j:ag),L x,L<|.int ((j%k.lanes:ag):ae),lv.set (j%k.lanes) u,ls.set (j%k.lanes) z,J,λb o e=>?_,bw,(QA.imp λv x q=>dw _ _ _ _ (s3.i.1.trans t3) q).set _<|dw.up t3 qz,?_,by rw[pk];exact Bg⟩
  ·rw[bJ<|dy e hL];exact s3 _ _<|dP _ _ e
  ·rw[Bw.Lf hy ef,wR (L z) ez];rfl
 ·obtain⟨x4,x5,x6,lv,ls,rfl,sm,eL,aL,ef,Bg⟩:=I
  rw[aP.bH,mi] at ef;have kk:bQ M (RC K k) H ((jX (eY k) (nk k.lanes) ls).map λr=>r.headD 0) Q E:=kk.eq (by rw[ef];rfl);exact kk.gX sm (cT (σ:=[L w1,L<|.ref pP,L<|.ref fT,L<|.ref cN,x4,x5,x6]) (t:=L ((),ls,())) (f:=λx=>(jX (eY k) (nk k.lanes) x.2.1).map λr=>r.headD 0) (aF aN (v0 J sm)<|aF Tu (aj (i:=3) J Tu ⟨⟨cN,lv,J,SqL.of eL,aL⟩,by rw[Bg];exact lp⟩) bR))
end
end BW
namespace BW
open PySem PySem.Spec PyProof.Rows L2
open Bw (bV cV bg cq bf dY gN ku dE fj iV)
section
variable{P:cO}{w:World}{K:aq}{mg:ax->au aH}{base:b9}{M CK CB CS:ak}
def jh(k:aB)(ps:af dR):au<|af ag:=bf (λj=>dE k (eY k) (ps.map λp=>p.list.getD j 0))<|iC 3
abbrev Jj(K:aq)(M CK:ak)(k:aB):Sp:=cU M (rX (aE (RK CK k)<|aE (RL K<|R3 K k) cg) λx=>x.2.1.length<=8192) (fG<|RC K k) λx=>jh k x.2.1
theorem EY:bF ["kind","threes","k","three"] ["kind","threes"] (ba<|aO 74):=fs
theorem S'(p:dR)(h:j<3):p.list[j]? =L (p.list.getD j 0):=by
 have:p.list.length=3:=J;simp[m7,this,h]
theorem ok_sumThrees(F:bh K "sum_of_threes" "sum_of_threes" (aO 74) f fd)(TC:jB mg)(GW:Gf K mg "with_number_added" (aO 70) fW AV ["kind","s","x"])(A1:cX P w K mg base M 18 "side_by_side" ["kind","parts","take_in"] λk=>zZ K M CK fW k (RC K k)<|eY k)(k:aB):aD P w K mg base (aQ P w M) 20 f fd ["kind","threes"]<|Jj K M CK k:=by
 obtain⟨f1,bZ,m1,k1,b1,O1⟩:=A1;have mW:=GW.m;refine F.oc EY λH Q E hr h=>?_;sleep 3;obtain⟨⟨_,ps,_⟩,⟨ar12,dJ⟩,kk⟩:=h;sleep 4;refine ar12.c2 λw1 w2 h1 h2=>?_;have hz:ps.length<=bI:=dN dJ dc
 refine⟨_,aR (bp (oM (own:=[("k",2)]) (te:=d_ _ [] E (aU (aw 0)<|aU (mP (zf K<|aw 1) (eI 3) oZ (bY (dI K) (aw 3)<|aw 2) [3]) _)) J J J jZ J EY.nd (zK J TC.range<|bz a_) bk (λ_ _ _ _ _=>eC 2 EY.nd) (λ_ _ _ _ _=>jo)
  (λ_ _ _ _ _=>cM (O1 k) (hr.aV dc) J m1 k1 b1 .nil j1 (bG (O 0) (UR (own:=[("three",3)]) J EY.nd (jm<|O 1) bk (λ_ _ _ _ _=>eC 3 EY.nd) (λ_ _ _ _ _=>jo) λ_ _ _ _ _=>d4 uQ (O 3) (O 2) λ_ _=>J)<|dH J mW (v:=.ref fW) J)))),?_⟩
 refine kk.by (nt_lcRs (C:=M) (E:=E) (H:=H) (i:=2) (n:=3) (vs:=[2]) dw.i.mO aI (aF (λ_ _ _ _ _ h=>h) (iP (λ_ _ _ _ _ h=>h) J) bR) dc (λ_=>J) λU j s1 hj=>?_);have ni:NT M E _ _ ((da [L w1,L w2,ah,ah] [2]).set 2 _) U<|mP _ (eI 3) oZ _ [3]:=(xA dw.i.mO aI bS (aj (i:=1) J (cE bS)<|cE bS _ _ _ _ s1 h2) hz (λ_=>J) λH2 v p s2 _ rp=>Eo aI ((aj (i:=3) (y:=p) J bS rp).conv λ_ _=>qt) (aj (i:=2) J iq J)<|S' p hj).eq<|Bw.l9 _
 exact cT (t:=L ((),ps.map λp=>p.list.getD j 0,(),())) (f:=λx=>dE k (eY k) x.2.1)<|nW (c:=λx=>x.2.1.length<=8192) (aF aN (aj (i:=0) J aN<|aN.up s1 h1) (aF (cE aI) ni<|aF kU (iP kU J) bR)) λy e=>by cases e;rw[ie];exact dJ
theorem scSZ:bF ["kind","body"] ["kind","body"] (ba<|aO 75):=fs
theorem ok_spinZero(F:bh K "spin_about_zero" "spin_about_zero" (aO 75) f fd)(B:BM P w K mg base M CK CB)(k:aB):aD P w K mg base (aQ P w M) 12 f fd ["kind","body"] (BZ K M CK CB k<|iV k):=by
 have TB:=B.TB;refine F.p2 scSZ λH Q E _ b w1 w2 hr h1 h2 kk=>?_;refine⟨_,aR (bp (B.V.add.c k hr aA<|bG (O 0) (B.V.moment.c k hr aA (bG (O 0) (bu<|O 1) (bu<|O 1))) (bu<|O 1))),?_⟩;have v0:NT M E _ _ [L w1,L w2] H<|aw 0:=aj J aN h1;have v1:NT M E _ _ [L w1,L w2] H<|aw 1:=aj J cD h2;exact kk.by<|kX (g:=iZ k) v0 (kX (g:=r8 k) v0 (zx TB v1)<|uX TB v1)<|By TB v1
abbrev Jn(K:aq)(M CK CB:ak)(k:aB)(g:af fu->au (af ag)):Sp:=cU M (aE (RK CK k)<|aE (wA K CB k) cg) (fG<|RC K k) λx=>g x.2.1
theorem NI:bF ["kind","bodies","body"] ["kind","bodies"] (ba<|aO 76):=fs
theorem NJ:bF ["kind","bodies","body"] ["kind","bodies"] (ba<|aO 77):=fs
theorem ok_wholeMo(F:bh K "whole_momentum" "whole_momentum" (aO 76) f fd)(TB:iU K mg CB)(A1:cX P w K mg base M 20 "sum_of_threes" ["kind","threes"] λk=>Jj K M CK k)(k:aB):aD P w K mg base (aQ P w M) 24 f fd ["kind","bodies"] (Jn K M CK CB k λbs=>jh k (bs.map (·.momentum))):=by
 refine F.p2 NI λH Q E _ bs w1 w2 hr h1 h2 kk=>?_;refine⟨_,aR<|bp (A1.c k hr aA<|bK (O 0) (oM (own:=[("body",2)]) (te:=c9 K _ "momentum") J J J jZ J NI.nd (jm<|O 1) bk (λ_ _ _ _ _=>eC 2 NI.nd) (λ_ _ _ _ _=>jo) λ_ _ _ _ _=>bu<|O 2)),?_⟩;have ni:NT M E _ _ [L w1,L w2,ah] H _:=(xA (i:=2) (vs:=[2]) cP.i.mO bS cD (aj (i:=1) J (cE cD) h2.1) (dN h2.2 dc) (λ_=>J) λU v y s _ r=>uX TB<|aj (i:=2) J cD r).eq<|Bw.l9 _;exact kk.by<|cT (f:=λx=>jh k x.2.1) (nW (c:=λx=>x.2.1.length<=8192) (aF aN (aj (i:=0) J aN h1)<|aF (cE bS) ni bR) λy e=>by cases e;rw[ie];exact dN h2.2 dc)
theorem ok_wholeSp(F:bh K "whole_spin" "whole_spin" (aO 77) f fd)(A1:cX P w K mg base M 20 "sum_of_threes" ["kind","threes"] λk=>Jj K M CK k)(A2:cX P w K mg base M 12 "spin_about_zero" ["kind","body"] λk=>BZ K M CK CB k<|iV k)(k:aB):aD P w K mg base (aQ P w M) 24 f fd ["kind","bodies"] (Jn K M CK CB k λbs=>(bf (iV k) bs).bind<|jh k):=by
 obtain⟨f2,di,m2,k2,b2,O2⟩:=A2;refine F.p2 NJ λH Q E _ bs w1 w2 hr h1 h2 kk=>?_;refine⟨_,aR<|bp (A1.c k hr aA<|bK (O 0) (oM (own:=[("body",2)]) J J J jZ J NJ.nd (jm<|O 1) bk (λ_ _ _ _ _=>eC 2 NJ.nd) (λ_ _ _ _ _=>jo) λ_ _ _ _ _=>cM (O2 k) (hr.aV dc) J m2 k2 b2 .nil j1 (bK (O 0)<|O 2))),?_⟩;have ni:NT M E _ _ [L w1,L w2,ah] H _:=xA (i:=2) (vs:=[2]) (R:=R3 K k) (f:=iV k) cP.i.mO bS cD (aj (i:=1) J (cE cD) h2.1) (dN h2.2 dc) (λ_=>J) λU v y s _ r=>cT (t:=L ((),y,())) (f:=λx=>iV k x.2.1)<|aF aN (aj (i:=0) J aN<|aN.up s h1)<|aF cD (aj (i:=2) J cD r) bR
 have nc:=cT (R:=fG<|RC K k) (f:=λx=>jh k x.2.1) (nW (c:=λx=>x.2.1.length<=8192) (aF aN (aj (i:=0) J aN h1)<|aF (cE bS) ni bR) λy e=>by
  cases ea:bf (iV k) bs with
  |none=>rw[ea] at e;cases e
  |some l=>rw[ea] at e;cases e;rw[Bw.iQ ea];exact dN h2.2 dc)
 exact kk.by<|nc.eq (by show _=(bf (iV k) bs).bind (jh k);cases bf (iV k) bs<;>rfl)
end
end BW
namespace BW
open PySem PySem.Spec PyProof.Rows L2
open Bw (bV cV bg cq iF bf dY dE fj iV)
section
variable{K:aq}{M:ak}{E:XK}{σ:L2.St}{H:Hp}{t1 t2:TE}{k:aB}
theorem Tn:mj<|RN K k:=λ_ _ _ _ s dm=>by obtain⟨p,h,r⟩:=dm;exact⟨p,Tp.up s h,r⟩
theorem D8:mj<|jf K k:=λ_ _ _ _ s dW=>by obtain⟨a,x,y,e,h,h1,h2⟩:=dW;exact⟨a,x,y,e,s.tup h,Tn.up s h1,Tn.up s h2⟩
theorem MO(h1:NT M E (RN K k) r σ H t1)(h2:NT M E (RN K k) s σ H t2):NT M E (jf K k) (r.bind λa=>s.map λb=>(a,b)) σ H<|lq (aU t1<|aU t2 b8):=NT.eq (zE (f:=λx=>L (x.1,x.2.1)) (aF eP h1<|aF eP h2 bR) (λ_ _ _ ju=>by obtain⟨v,r,e,_,v2,r2,e2,_,e3⟩:=ju;subst e e2 e3;show 2<=bI;decide)
  (λ_ _ y p gw hp=>by obtain⟨v,r,e,q1,v2,r2,e2,q2,e3⟩:=gw;subst e e2 e3;exact⟨_,J,p,v,v2,J,cH.of hp,q1,q2⟩) (mH eP<|mH eP zt))<|by cases r<;>cases s<;>rfl
end
theorem QT{R':bE β}{rb:au β}{f:β->au α}(k:bQ C R Hb (rb.bind f) Q E)(sb:az Hb Hc)(h:NT C E R' rb σ Hc te)
 (hq:∀y v U,az Hc U->rb=L y->R' U v y->bQ C R Hb (f y) Q E->u D (σ.set i<|L v) U):oY (j7 te<|eI i) u D σ Hc:=k.bindB sb h hq
section
variable{P:cO}{w:World}{K:aq}{mg:ax->au aH}{base:b9}{M CK CB CS CN CP:ak}
abbrev Jd(K:aq)(M CK CB:ak)(k:aB)(g:af fu->au ag):Sp:=cU M (aE (RK CK k)<|aE (wA K CB k) cg) (RC K k) λx=>g x.2.1
theorem NR:bF ["kind","bodies","pairs","body"] ["kind","bodies"] (ba<|aO 78):=fs
theorem ok_enW{f fW:ak}{fd AV:c7}(F:bh K "energy_of_ways" "energy_of_ways" (aO 78) f fd)(B:BM P w K mg base M CK CB)(hH:∃a,mg "HALF"=L (.ref a)/\ ∀H,cH K H a [.int 1,.int (-1)])(GW:Gf K mg "with_product_added" (aO 71) fW AV ["kind","s","pair"])(A3:cX P w K mg base M 18 "side_by_side" ["kind","parts","take_in"] λk=>zZ K M CK fW k (jf K k)<|fj k)(k:aB):aD P w K mg base (aQ P w M) 20 f fd ["kind","bodies"] (Jd K M CK CB k λbs=>(bf (Bw.wQ k) bs).bind (dE k<|fj k)):=by
 obtain⟨f1,bZ,M1,b1,O1⟩:=B.V.aJ.mul;obtain⟨f2,di,m2,k2,b2,O2⟩:=B.V.dot;obtain⟨kO,hHm,hHq⟩:=hH;have mW:=GW.m;have TB:=B.TB;refine F.p2 NR λH Q E _ bs w1 w2 hr h1 h2 kk=>?_;have hk:=h1.1
 refine⟨_,aG (BJ (i:=2) (own:=[("body",3)]) (te:=lq<|aU (tC<|.ref kO)<|aU (eE CK "times" _ [] E (aw 0) (aU (c9 K (aw 3) "by_weight")<|aU (d_ _ [] E<|aU (aw 0) (aU (c9 K (aw 3) "momentum")<|aU (c9 K (aw 3) "momentum") b8)) b8)) b8) J J J jZ J NR.nd J J (B7 J J J J) (jm<|O 1) bk (λ_ _ _ _ _=>eC 3 NR.nd) (λ_ _ _ _ _=>jo) λ_ _ _ _ _=>fV<|bK (dH J hHm (v:=.ref kO) J) (bW (O 0) B.V.aJ.T.cl M1 (O1 k) (hr.aV dc) b1 .nil j1 (bK (bu<|O 3)<|cM (O2 k) (hr.aV dc) J m2 k2 b2 .nil j1 (bG (O 0) (bu<|O 3) (bu<|O 3)))))
  (aR (bp<|A3.c k hr aA (bG (O 0) (O 2)<|dH J mW (v:=.ref fW) J))),?_⟩
 have ni:=xA (i:=3) (vs:=[3]) (R:=jf K k) (R':=cp K CB k) (f:=Bw.wQ k) D8.i.mO gI cD (aj (i:=1) J (cE cD) h2.1) (dN h2.2 dc) (λ_=>J) λU v y s _ r=>by
  have v0:NT M E (RK CK k) (L ()) ((da [L w1,L w2,ah,ah] [3]).set 3<|L v) U<|aw 0:=aj J aN<|aN.up s h1;have v3:NT M E (cp K CB k) (L y) ((da [L w1,L w2,ah,ah] [3]).set 3<|L v) U<|aw 3:=aj J cD r;have nh:NT M E (RN K k) (L<|lN k) ((da [L w1,L w2,ah,ah] [3]).set 3<|L v) U (tC<|.ref kO):=iP eP ⟨(1,-1),⟨kO,J,hHq U⟩,Bw.Iu hk⟩;have nd:=HQ (g:=mr k) (r:=L y.momentum) (s:=L y.momentum) v0 (uX TB v3)<|uX TB v3;have nm:=qf (g:=iE k) (r:=L y.inverse) uV v0 ((MG TB v3).cZ λ_ _ _=>dS hk) (nd.cZ λ_ _ _=>dS hk);exact(MO nh (nm.cZ λ_ _ _=>dS hk)).eq J
 refine QT kk sr ni λl u U s1 el q1 kk=>?_;exact kk.gX s1 (cT (t:=L ((),l,(),())) (f:=λx=>dE k (fj k) x.2.1)<|nW (aF aN (aj (i:=0) J aN<|aN.up s1 h1) (aF (cE gI) (aj (i:=2) J (cE gI) q1)<|aF kU (iP kU J) bR)) λy e=>by cases e;show l.length<=8192;rw[Bw.iQ el];exact dN h2.2 dc)
theorem NQ:bF ["kind","bodies","pairs","body"] ["kind","bodies"] (ba<|aO 79):=fs
theorem ok_enT{f fW:ak}{fd AV:c7}(F:bh K "energy_of_turning" "energy_of_turning" (aO 79) f fd)(B:BM P w K mg base M CK CB)(hH:∃a,mg "HALF"=L (.ref a)/\ ∀H,cH K H a [.int 1,.int (-1)])(GW:Gf K mg "with_product_added" (aO 71) fW AV ["kind","s","pair"])(A3:cX P w K mg base M 18 "side_by_side" ["kind","parts","take_in"] λk=>zZ K M CK fW k (jf K k)<|fj k)(k:aB):aD P w K mg base (aQ P w M) 20 f fd ["kind","bodies"] (Jd K M CK CB k λbs=>(bf (Bw.wO k) bs).bind (dE k<|fj k)):=by
 obtain⟨f1,bZ,m1,k1,b1,O1⟩:=B.ht;obtain⟨f2,di,m2,k2,b2,O2⟩:=B.V.dot;obtain⟨kO,hHm,hHq⟩:=hH;have mW:=GW.m;have TB:=B.TB;refine F.p2 NQ λH Q E _ bs w1 w2 hr h1 h2 kk=>?_;have hk:=h1.1
 refine⟨_,aG (BJ (i:=2) (own:=[("body",3)]) (te:=lq<|aU (tC<|.ref kO)<|aU (d_ _ [] E (aU (aw 0)<|aU (c9 K (aw 3) "spin") _)) b8) J J J jZ J NQ.nd J J (B7 J J J J) (jm<|O 1) bk (λ_ _ _ _ _=>eC 3 NQ.nd) (λ_ _ _ _ _=>jo) λ_ _ _ _ _=>fV<|bK (dH J hHm (v:=.ref kO) J) (cM (O2 k) (hr.aV dc) J m2 k2 b2 .nil j1 (bG (O 0) (bu<|O 3)<|cM (O1 k) (hr.aV dc) J m1 k1 b1 .nil j1 (bK (O 0)<|O 3))))
  (aR (bp<|A3.c k hr aA (bG (O 0) (O 2)<|dH J mW (v:=.ref fW) J))),?_⟩
 have ni:=xA (i:=3) (vs:=[3]) (R:=jf K k) (R':=cp K CB k) (f:=Bw.wO k) D8.i.mO gI cD (aj (i:=1) J (cE cD) h2.1) (dN h2.2 dc) (λ_=>J) λU v y s _ r=>by
  have v0:NT M E (RK CK k) (L ()) ((da [L w1,L w2,ah,ah] [3]).set 3<|L v) U<|aw 0:=aj J aN<|aN.up s h1;have v3:NT M E (cp K CB k) (L y) ((da [L w1,L w2,ah,ah] [3]).set 3<|L v) U<|aw 3:=aj J cD r;have nh:NT M E (RN K k) (L<|lN k) ((da [L w1,L w2,ah,ah] [3]).set 3<|L v) U (tC<|.ref kO):=iP eP ⟨(1,-1),⟨kO,J,hHq U⟩,Bw.Iu hk⟩;have MC:NT M E (R3 K k) (pE k y) _ U _:=cT (t:=L ((),y,())) (f:=λx=>pE k x.2.1) (aF aN v0<|aF cD v3 bR);have nd:=HQ (g:=mr k) (r:=L y.spin) v0 (By TB v3) MC;exact(MO nh (nd.cZ λ_ _ _=>dS hk)).eq J
 refine QT kk sr ni λl u U s1 el q1 kk=>?_;exact kk.gX s1 (cT (t:=L ((),l,(),())) (f:=λx=>dE k (fj k) x.2.1)<|nW (aF aN (aj (i:=0) J aN<|aN.up s1 h1) (aF (cE gI) (aj (i:=2) J (cE gI) q1)<|aF kU (iP kU J) bR)) λy e=>by cases e;rw[Bw.iQ el];exact dN h2.2 dc)
def GL(k:aB)(x:gF×af fu×af ke×gF):au ag:=((fS k x).bind λsp=>bf (λy=>Bw.lK k y.1 y.2)<|x.2.2.1.zip sp).bind (dE k<|fj k)
abbrev Wd(K:aq)(M CK CB CS:ak)(k:aB):Sp:=cU M (Fw K CK CB CS k) (RC K k)<|GL k
theorem ER:bF ["kind","bodies","springs","pairs","spring","span","x"] ["kind","bodies","springs"] (ba<|aO 80):=fs
theorem ok_enS{f fW:ak}{fd AV:c7}(F:bh K "energy_of_springs" "energy_of_springs" (aO 80) f fd)(TC:jB mg)(B:BM P w K mg base M CK CB)(TS:Tx K mg CS "Spring" oR)(hH:∃a,mg "HALF"=L (.ref a)/\ ∀H,cH K H a [.int 1,.int (-1)])(GW:Gf K mg "with_product_added" (aO 71) fW AV ["kind","s","pair"])
 (A1:cX P w K mg base M 20 "find_spans" ["kind","bodies","springs"] λk=>Je K M CK CB CS CN CP k) (A2:cX P w K mg base M 20 "stretch" ["kind","spring","span"] λk=>Oz K M CK CS CN CP k) (A3:cX P w K mg base M 18 "side_by_side" ["kind","parts","take_in"] λk=>zZ K M CK fW k (jf K k)<|fj k) (k:aB):
 aD P w K mg base (aQ P w M) 30 f fd ["kind","bodies","springs"]<|Wd K M CK CB CS k:=by
 obtain⟨f4,ig,M4,b4,O4⟩:=B.V.aJ.mul;obtain⟨kO,hHm,hHq⟩:=hH;have mW:=GW.m;refine F.oc ER λH Q E hr h=>?_;sleep 3;obtain⟨⟨_,bs,ss,_⟩,⟨ar13,km⟩,kk⟩:=h;sleep 4;refine ar13.c3 λw1 w2 w3 h1 h2 h3=>?_;have hk:=h1.1
 refine⟨_,aG (bC 3 ER.nd<|gr vm) (aG (nZ mI J (M8 J TC.zip (bK (O 2)<|A1.c k hr aA (bG (O 0) (O 1)<|O 2))) (BH J (qk (eC 4 ER.nd)<|qk (eC 5 ER.nd) BI))
  (aG (bC 6 ER.nd<|A2.c k hr aA (bG (O 0) (O 4)<|O 5))
  (aR<|qp (vp wx CT CV Bt (O 3) (bz (fV<|bK (bW (O 0) B.V.aJ.T.cl M4 (O4 k) (hr.aV dc) b4 .nil aA<|bK (dH J hHm (v:=.ref kO) J) (bu<|O 4))<|bW (O 0) B.V.aJ.T.cl M4 (O4 k) (hr.aV dc) b4 .nil aA (bK (O 6)<|O 6)))))))
  (aR (bp<|A3.c k hr aA (bG (O 0) (O 3)<|dH J mW (v:=.ref fW) J)))),?_⟩
 have Bl:ss.length<=8192:=km.2.2;refine⟨eM _,λl hl=>?_⟩;have sl:az H (aC H l<|.lst []):=az.new hl;obtain⟨p3,sv,rfl,sO,a3⟩:=id h3;refine⟨_,J,?_⟩;have n1:NT M E (fG<|jA K CN CP k) (fS k ((),bs,ss,())) [L w1,L w2,L<|.ref p3,L<|.ref l,ah,ah,ah] (aC H l<|.lst []) _:=cT (t:=L ((),bs,ss,())) (f:=fS k) (nW (c:=λx=>ox x.2.1.length x.2.2.1/\x.2.1.length<=4096/\x.2.2.1.length<=8192) (aF aN (aj (i:=0) J aN<|aN.up sl h1) (aF (cE cD) (aj (i:=1) J (cE cD)<|cE cD _ _ _ _ sl h2)<|aF (cE eO.m) (aj (i:=2) J (cE eO.m)<|cE eO.m _ _ _ _ sl h3) bR)) λy e=>by cases e;exact km);have kk:bQ M (RC K k) H (((fS k ((),bs,ss,())).bind λsp=>bf (λy:ke×iF=>Bw.lK k y.1 y.2)<|ss.zip sp).bind (dE k<|fj k)) Q E:=kk;refine n1 _ _ sr ⟨λU vn sp s1 GI q1=>?_,λU s1 e=>kk.no U (sl.trans s1) (by rw[e];rfl)⟩;have fw:sp.length=ss.length:=Bw.iQ GI;obtain⟨p5,nv,rfl,Bj,a5⟩:=q1;have V3:=sl.trans s1;have Rt:U l=L (.lst []):=s1 _ _ bw;have gZ:p5=l->nv=[]:=λz=>by rw[z,Rt] at Bj;cases Bj;rfl
 refine⟨p3,p5,sv,nv,J,V3.seq sO,SqL.of Bj,?_⟩;have kk:bQ M (RC K k) H ((bf (λy:ke×iF=>Bw.lK k y.1 y.2)<|ss.zip sp).bind (dE k<|fj k)) Q E:=kk.eq (by rw[GI];rfl);refine RZ (K:=K) (xs:=sv) (ys:=nv) (by rw[a3.bH,a5.bH];exact fw.symm) (λj aS H'=>E5 λ(x4 x5 x6:au V)(d8:af V)(zs:af (ag×ag))=>A7 (aS=[L w1,L w2,L<|.ref p3,L<|.ref l,x4,x5,x6]) (az H H') (H' p5=L (.lst nv)) (cf (jA K CN CP k H') nv sp) (H' l=L (.lst d8)) (cf (jf K k H') d8 zs)<|bf (λy:ke×iF=>Bw.lK k y.1 y.2) ((ss.zip sp).take j)=L zs)
  ⟨ah,ah,ah,[],[],J,V3,Bj,a5,Rt,ck,by rw[m9];rfl⟩ (λj aS H' _ mX=>by obtain⟨_,_,_,_,_,_,sm,h5,_⟩:=mX;exact⟨sm.seq sO,SqL.of h5⟩) (λj x y T aS H' hx hy I hT=>?_) λaS H' I=>?_
 ·obtain⟨x4,x5,x6,d8,zs,rfl,sm,h5,a5,eL,aL,ez⟩:=I
  obtain⟨s0,SE,rs0⟩:=a3.get hx;obtain⟨n0,hn0,rn0⟩:=a5.get hy;have hz:(ss.zip sp)[j]? =L (s0,n0):=by rw[PM];exact⟨SE,hn0⟩
  have sT:az H' (aC H' T<|.tup [x,y]):=az.new hT;have lh:=sm.trans sT;refine AZ bw ?_;have v0:∀{σ:L2.St}{Hc:Hp},σ[0]? =L (L w1)->az H Hc->NT M E (RK CK k) (L ()) σ Hc (aw 0):=λe s=>aj e aN<|aN.up s h1;have DB:Bw.lK k s0 n0=ah->((bf (λy:ke×iF=>Bw.lK k y.1 y.2)<|ss.zip sp).bind (dE k<|fj k))=ah:=λe=>by rw[Bw.IY (f:=λy:ke×iF=>Bw.lK k y.1 y.2) hz e];rfl
  have xp:NT M E (RC K k) (Bw.kF k s0 n0) [L w1,L w2,L<|.ref p3,L<|.ref l,L x,L y,x6] (aC H' T<|.tup [x,y]) _:=cT (t:=L ((),s0,n0,())) (f:=λx=>Bw.kF k x.2.1 x.2.2.1) (aF aN (v0 J lh) (aF eO.m (aj (i:=4) J eO.m<|eO.m.up lh rs0)<|aF kS.m (aj (i:=5) J kS.m<|kS.m.up sT rn0) bR));refine xp _ _ sr ⟨λH2 ux xx s2 ex qx=>?_,λH2 s2 e=>kk.no H2 (lh.trans s2)<|DB (by unfold Bw.lK;rw[e];rfl)⟩;have dP:=lh.trans s2;have nh:NT M E (RN K k) (L<|lN k) [L w1,L w2,L<|.ref p3,L<|.ref l,L x,L y,L ux] H2 (tC<|.ref kO):=iP eP ⟨(1,-1),⟨kO,J,hHq H2⟩,Bw.Iu hk⟩;have nc:=qf (g:=iE k) (r:=L<|lN k) (s:=L s0.stiff) uV (v0 J dP) nh<|(Ux TS (aj (i:=4) J eO.m<|eO.m.up dP rs0)).cZ λ_ _ _=>dS hk;have nx:NT M E (RN K k) (L xx) [L w1,L w2,L<|.ref p3,L<|.ref l,L x,L y,L ux] H2<|aw 6:=(aj (i:=6) J aI qx).cZ λ_ _ _=>dS hk;have nt2:=qf (g:=iE k) (r:=L xx) (s:=L xx) uV (v0 J dP) nx nx;have np:=MO (nc.cZ λ_ _ _=>dS hk) (nt2.cZ λ_ _ _=>dS hk);have Rq:Bw.lK k s0 n0=(iE k (lN k) s0.stiff).bind λc=>(iE k xx xx).map λt=>(c,t):=by unfold Bw.lK;rw[ex];rfl
  have Dy:=(sT.trans s2) _ _ eL;refine⟨_,J,.inl ⟨J,_,SqL.of Dy⟩,?_⟩;refine np H2 _ sr ⟨λH3 u z s3 GJ q3=>?_,λH3 s3 e=>kk.no H3 (dP.trans s3)<|DB (by rw[Rq];exact e)⟩;have uE:=s3 _ _ Dy;have Bg:d8.length<=8192:=by rw[aL.bH,Bw.iQ ez,kJ,FI];lia
  refine⟨l,d8,u,J,J,uE,wq Bg dc,?_⟩;have si:fO H3<|aC H3 l (.lst<|d8++[u]):=fO.aC (by rw[uE];trivial);have sA:fO H'<|aC H3 l (.lst<|d8++[u]):=((sT.trans s2).trans s3).i.trans si;have n5:p5≠l:=λz=>by rw[gZ z] at hy;simp at hy
  refine⟨L x,L y,L ux,d8++[u],zs++[z],J,λb o e=>?_,?_,a5.imp λv x=>kS _ _ _ _ sA,bw,(aL.imp λv x=>D8 _ _ _ _ sA.1).snoc<|D8 _ _ _ _ si.1 q3,?_⟩
  ·rw[bJ<|dy e hl];exact s3 _ _<|dP _ _ e
  ·rw[bJ n5];exact((sT.trans s2).trans s3) _ _ h5
  ·rw[BX hz,ez,show Bw.lK k s0 n0=L z from Rq.trans GJ];rfl
 ·obtain⟨x4,x5,x6,d8,zs,rfl,sm,h5,a5,eL,aL,ez⟩:=I
  have GK:(ss.zip sp).length=ss.length:=by rw[FI,fw];exact PZ _
  simp only[a3.bH,<-GK,mi] at ez;have kk:bQ M (RC K k) H (dE k (fj k) zs) Q E:=kk.eq (by rw[ez];rfl);exact kk.gX sm (cT (σ:=[L w1,L w2,L<|.ref p3,L<|.ref l,x4,x5,x6]) (t:=L ((),zs,(),())) (f:=λx=>dE k (fj k) x.2.1) (nW (c:=λx=>x.2.1.length<=8192) (aF aN (aj (i:=0) J aN<|aN.up sm h1) (aF (cE gI) (aj (i:=3) J (cE gI) ⟨l,d8,J,SqL.of eL,aL⟩)<|aF kU (iP kU J) bR)) λy e=>by cases e;show zs.length<=8192;rw[Bw.iQ ez,GK];exact Bl))
end
end BW
namespace BW
open PySem PySem.Spec PyProof.Rows L2
open Bw (bV cV bg cq iF bf dY dE fj iV j4)
section
variable{α:Type}{R:bE α}{M:ak}{E:XK}{σ:L2.St}{H:Hp}{t1 t2:TE}
theorem MH(m:cY R)(h1:NT M E (fG R) r σ H t1)(h2:NT M E (fG R) s σ H t2)(hb:∀a b,r=L a->s=L b->a.length+b.length<=bI):NT M E (fG R) (r.bind λa=>s.map λb=>a++b) σ H<|bY Ip t1 t2:=λU Q st k=>by
 refine h1 U _ st ⟨λH2 v a s2 ea q=>h2 H2 _ (st.trans s2) ⟨λH3 u b s3 eb q3=>?_,λH3 s3 e=>k.no H3 (s2.trans s3) (by rw[ea,e];rfl)⟩,λH2 s2 e=>k.no H2 s2 (by rw[e];rfl)⟩;obtain⟨p,vs,rfl,hp,ha⟩:=q;obtain⟨p',us,rfl,DR,ha'⟩:=q3;refine⟨p,p',vs,us,J,J,s3 _ _ hp,DR,by rw[ha.bH,ha'.bH];exact hb a b ea eb,λt ht=>?_⟩;have sn:az H3<|aC H3 t (.lst<|vs++us):=az.new ht;exact k.ok _ _ (a++b) ((s2.trans s3).trans sn) (by rw[ea,eb];rfl) ⟨t,_,J,bw,(ha.imp λv x=>m _ _ _ _<|s3.trans sn).append (ha'.imp λv x=>m _ _ _ _ sn)⟩
end
theorem Rz(k:aB)(ps:af dR):jh k ps=(wD (dE k (eY k) (ps.map (·.x))) (dE k (eY k) (ps.map (·.y))) (dE k (eY k) (ps.map (·.z)))).map ow:=by
 show(dE k _ (ps.map (·.x))).bind (λa=>((dE k _ (ps.map (·.y))).bind λb=>((dE k _ (ps.map (·.z))).bind λc=>(L []).map λl=>c::l).map λl=>b::l).map λl=>a::l)=_
 cases dE k _ (ps.map (·.x)) with
 |none=>rfl
 |some a=>
  cases dE k _ (ps.map (·.y)) with
  |none=>rfl
  |some b=>cases dE k _ (ps.map (·.z))<;>rfl
theorem K_(h:jh k ps=L l):l.length=3:=Bw.iQ h
theorem sums_prog(hk:bV k)(bs:af fu)(ss:af ke):AB k {bodies:=bs,springs:=ss}=((bf (Bw.wQ k) bs).bind (dE k<|fj k)).bind λa=>((bf (Bw.wO k) bs).bind (dE k<|fj k)).bind λb=>(GL k ((),bs,ss,())).bind λc=>((eY k a b).bind λd=>eY k d c).bind λe=>
                                                                               ((jh k (bs.map (·.momentum))).bind λm=>((bf (iV k) bs).bind<|jh k).map λl=>m++l).map λml=>ml++[a,b,c,e]:=by
 rw[Bw.sums_eq,Bw.ways_eq hk,Bw.whirls_eq hk,Bw.tensions_eq hk,Bw.momenta_eq hk,Bw.spins_eq hk]
 congr 1;funext a
 congr 1;funext b
 have e1:GL k ((),bs,ss,())=_:=J
 congr 1;funext c
 congr 1;funext e
 rw[Rz];have e2:(bf (iV k) bs).bind (jh k)=((bf (iV k) bs).bind λl=>wD (dE k (eY k) (l.map (·.x))) (dE k (eY k) (l.map (·.y))) (dE k (eY k) (l.map (·.z)))).map ow:=by
  cases bf _ bs with
  |none=>rfl
  |some l=>exact Rz k l
 rw[e2];simp only[PN];show Ao (wD _ _ _) _=Km _ (Ao (Km ow (wD (dE k _ (bs.map λb=>b.momentum.x)) (dE k _ (bs.map λb=>b.momentum.y))<|dE k _ (bs.map λb=>b.momentum.z))) _)
 cases wD _ _ _ with
 |none=>rfl
 |some m=>
  cases(bf _ bs).bind λl=>wD _ _ _ with
  |none=>rfl
  |some l=>show L (m.list++(l.list++[a,b,c,e]))=L (m.list++l.list++[a,b,c,e]);rw[J7]
section
variable{P:cO}{w:World}{K:aq}{mg:ax->au aH}{base:b9}{M CK CB CS CN CP:ak}
abbrev Jk(K:aq)(M CK CB CS:ak)(k:aB):Sp:=cU M (Fw K CK CB CS k) (fG<|RC K k) λx=>AB k {bodies:=x.2.1,springs:=x.2.2.1}
theorem E6:bF ["kind","bodies","springs","ways","turning","held","energy"] ["kind","bodies","springs"] (ba<|aO 81):=fs
theorem ok_tenSums{f:ak}{fd:c7}(F:bh K "ten_sums" "ten_sums" (aO 81) f fd)(aJ:KM P w K mg base M CK)
 (A1:cX P w K mg base M 20 "energy_of_ways" ["kind","bodies"] λk=>Jd K M CK CB k λbs=>(bf (Bw.wQ k) bs).bind (dE k<|fj k)) (A2:cX P w K mg base M 20 "energy_of_turning" ["kind","bodies"] λk=>Jd K M CK CB k λbs=>(bf (Bw.wO k) bs).bind (dE k<|fj k)) (A3:cX P w K mg base M 30 "energy_of_springs" ["kind","bodies","springs"] λk=>Wd K M CK CB CS k)
 (A5:cX P w K mg base M 24 "whole_momentum" ["kind","bodies"] λk=>Jn K M CK CB k λbs=>jh k (bs.map (·.momentum))) (A6:cX P w K mg base M 24 "whole_spin" ["kind","bodies"] λk=>Jn K M CK CB k λbs=>(bf (iV k) bs).bind<|jh k) (k:aB):
 aD P w K mg base (aQ P w M) 34 f fd ["kind","bodies","springs"]<|Jk K M CK CB CS k:=by
 obtain⟨f4,ig,M4,b4,O4⟩:=aJ.add;refine F.oc E6 λH Q E hr h=>?_;sleep 3;obtain⟨⟨_,bs,ss,_⟩,⟨ar14,km⟩,kk⟩:=h;sleep 4;refine ar14.c3 λw1 w2 w3 h1 h2 h3=>?_;have hk:=h1.1;have oH:bs.length<=4096:=km.2.1
 refine⟨_,aG (bC 3 E6.nd<|A1.c k hr aA (bK (O 0)<|O 1)) (aG (bC 4 E6.nd<|A2.c k hr aA (bK (O 0)<|O 1))
  (aG (bC 5 E6.nd<|A3.c k hr aA (bG (O 0) (O 1)<|O 2))
  (aG (bC 6 E6.nd (bW (O 0) aJ.T.cl M4 (O4 k) (hr.aV dc) b4 .nil aA<|bK (bW (O 0) aJ.T.cl M4 (O4 k) (hr.aV dc) b4 .nil aA (bK (O 3)<|O 4))<|O 5))
  (aR (bp (bO ve (bO ve (A5.c k hr aA (bK (O 0)<|O 1))<|A6.c k hr aA (bK (O 0)<|O 1)) (gr<|dC (O 3) (bG (O 4) (O 5)<|O 6)))))))),?_⟩
 have kk:=kk.eq<|sums_prog hk bs ss;have v0:∀{σ:L2.St}{Hc:Hp},σ[0]? =L (L w1)->az H Hc->NT M E (RK CK k) (L ()) σ Hc (aw 0):=λe s=>aj e aN<|aN.up s h1;have v1:∀{σ:L2.St}{Hc:Hp},σ[1]? =L (L w2)->az H Hc->NT M E (wA K CB k) (L bs) σ Hc (aw 1):=λe s=>aj e pZ<|pZ.up s ⟨h2,oH⟩;refine bQ.bindB kk sr (cT (σ:=[L w1,L w2,L w3,ah,ah,ah,ah]) (t:=L ((),bs,())) (f:=λx=>(bf (Bw.wQ k) x.2.1).bind (dE k<|fj k)) (aF aN (v0 J sr)<|aF pZ (v1 J sr) bR)) λa ua U s1 _ qa kk=>?_;refine bQ.bindB kk s1 (cT (σ:=[L w1,L w2,L w3,L ua,ah,ah,ah]) (t:=L ((),bs,())) (f:=λx=>(bf (Bw.wO k) x.2.1).bind (dE k<|fj k)) (aF aN (v0 J s1)<|aF pZ (v1 J s1) bR)) λb ub H2 s2 _ qb kk=>?_;have jq:=s1.trans s2;refine bQ.bindB kk jq (cT (t:=L ((),bs,ss,())) (f:=GL k)<|nW (aF aN (v0 J jq) (aF (cE cD) (aj (i:=1) J (cE cD)<|cE cD _ _ _ _ jq h2)<|aF (cE eO.m) (aj (i:=2) J (cE eO.m)<|cE eO.m _ _ _ _ jq h3) bR)) λy e=>by cases e;exact km) λc uc H3 s3 _ qc kk=>?_;have qw:=jq.trans s3;have ne:NT M E (RC K k) ((eY k a b).bind λd=>eY k d c) [L w1,L w2,L w3,L ua,L ub,L uc,ah] H3 _:=(qf (g:=eY k) (r:=eY k a b) (s:=L c) TZ (v0 J qw) ((uW hk (v0 J qw) (aj (i:=3) J aI<|aI _ _ _ _ (s2.trans s3) qa) (aj (i:=4) J aI<|aI.up s3 qb)).cZ λ_ _ _=>dS hk) ((aj (i:=5) J aI qc).cZ λ_ _ _=>dS hk)).eq J;refine bQ.bindB kk qw ne λe ue H4 s4 _ qe kk=>?_;have tG:=qw.trans s4;have n5:NT M E (fG<|RC K k) (jh k (bs.map (·.momentum))) [L w1,L w2,L w3,L ua,L ub,L uc,L ue] H4 _:=cT (t:=L ((),bs,())) (f:=λx=>jh k (x.2.1.map (·.momentum))) (aF aN (v0 J tG)<|aF pZ (v1 J tG) bR);have n6:NT M E (fG<|RC K k) ((bf (iV k) bs).bind<|jh k) [L w1,L w2,L w3,L ua,L ub,L uc,L ue] H4 _:=cT (t:=L ((),bs,())) (f:=λx=>(bf (iV k) x.2.1).bind<|jh k) (aF aN (v0 J tG)<|aF pZ (v1 J tG) bR);have l6:∀l,(bf (iV k) bs).bind (jh k)=L l->l.length=3:=λl e=>by
  obtain⟨x,_,e2⟩:=Option.bind_eq_some_iff.mp e;exact K_ e2
 have n56:=MH aI n5 n6 λa b ea eb=>by rw[K_ ea,l6 b eb];decide
 have n7:NT M E (fG<|RC K k) (L [a,b,c,e]) [L w1,L w2,L w3,L ua,L ub,L uc,L ue] H4<|Jv (aU (aw 3)<|aU (aw 4) (aU (aw 5)<|aU (aw 6) b8)):=λH5 Q s5 kq=>⟨_,J,_,J,_,J,_,J,by show 4<=bI;decide,λt ht=>kq.ok _ _ _ (az.new ht) J ⟨t,_,J,bw,aI _ _ _ _ ((((s2.trans s3).trans s4).trans s5).trans<|az.new ht) qa,aI _ _ _ _ (((s3.trans s4).trans s5).trans<|az.new ht) qb,aI _ _ _ _ ((s4.trans s5).trans<|az.new ht) qc,aI _ _ _ _ (s5.trans<|az.new ht) qe,ck⟩⟩;refine kk.gX tG<|(MH aI n56 n7 λx y ex ey=>?_).eq ?_
 ·cases ey
  obtain⟨m,em,ex⟩:=Option.bind_eq_some_iff.mp ex
  cases el:(bf (iV k) bs).bind (jh k) with
  |none=>rw[el] at ex;cases ex
  |some l=>
   rw[el] at ex
   cases ex
   rw[iT,K_ em,l6 l el];show 3+3+4<=bI;decide
 ·cases(jh k (bs.map (·.momentum))).bind λm=>((bf (iV k) bs).bind<|jh k).map λl=>m++l<;>rfl
end
end BW
namespace L2
theorem cf.Td{R:V->α->Prop}{f:α->V}:∀{l:af α},(∀x∈l,R (f x) x)->cf R (l.map f) l
 |[],_=>trivial
 |_::_,h=>⟨h _ iB,cf.Td λb hb=>h b<|gD _ hb⟩
end L2
namespace BW
open PySem PySem.Spec PyProof.Rows L2
open Bw (bV cV bg cq bf)
section
variable{P:cO}{w:World}{K:aq}{mg:ax->au aH}{base:b9}{M CK CB:ak}
def CZ(K:aq)(k:aB):bE<|af ag:=λH v l=>RL K (RC K k) H v l/\l≠[]/\bV k
theorem xk:cY<|CZ K k:=λ_ _ _ _ s h=>⟨cE aI _ _ _ _ s h.1,h.2⟩
abbrev Jg(K:aq)(M:ak)(k:aB)(g:af ag->ag):Sp:=cU M (aE (CZ K k) cg) (RC K k) λx=>L<|g x.1
theorem IW:bF ["numbers","found","x"] ["numbers"] (ba<|aO 50):=fs
theorem ok_least(F:bh K "least" "least" (aO 50) f fd)(G1:Gf K mg "is_below" q_ f1 bZ ["x","y"])(k:aB):aD P w K mg base (aQ P w M) 10 f fd ["numbers"] (Jg K M k λl=>Qo k l):=by
 have O1:aD P w K mg base (aQ P w M) 5 f1 bZ _<|oV K M k:=(xB G1.F k).gz.aV dc;refine F.p1 IW λH Q E l w1 hr qN kk=>?_;obtain⟨h1,gZ,hk⟩:=qN;refine⟨_,aG (bC 1 IW.nd<|d4 kr (O 0) a_ λ_ _=>J) (aG (nZ mI J (jm<|O 0) (eC 2 IW.nd)<|aR (dU (i7<|cM O1 (hr.aV dc) J G1.m G1.F.kp G1.b .nil aA (bK (O 2)<|O 1)) (aR (bC 1 IW.nd<|O 2)) d7))<|aR (bp<|O 1)),?_⟩;have g0:l[0]? =L (l.headD 0):=by cases l with
  |nil=>exact absurd J gZ
  |cons a t=>rfl
 refine j3 (qU aI (aj (C:=M) (E:=E) J (cE aI) h1) (iP iq J) g0) λv0 U s1 q0=>?_;obtain⟨p,lv,rfl,hp,ha⟩:=h1;refine⟨_,J,p,J,⟨lv,s1.seq hp⟩,?_⟩;refine AY (λj aS H'=>E3 λ(x2:au V)(vf:V)(a:ag)=>A4 (aS=[L _,L vf,x2]) (az H H') (RC K k H' vf a)<|a=(l.take j).foldl (λa b=>if jT k b a=ao then b else a) (l.headD 0))
  ⟨ah,v0,_,J,s1,q0,J⟩ (λj aS H' _ dm=>by obtain⟨_,_,_,_,sm,_⟩:=dm;exact sm.seq hp) (λj x aS H' hx I=>?_) λaS H' I=>?_
 ·obtain⟨x2,vf,a,rfl,sm,ra,ea⟩:=I
  obtain⟨y,hy,ry⟩:=ha.get hx;have nx:NT M E _ _ [L<|.ref p,L vf,L x] H'<|aw 2:=(aj J aI<|aI.up sm ry).cZ λ_ _ _=>dS hk;have nf:NT M E _ _ [L<|.ref p,L vf,L x] H'<|aw 1:=(aj J aI ra).cZ λ_ _ _=>dS hk;have wR:(l.take<|j+1).foldl (λa b=>if jT k b a=ao then b else a) (l.headD 0)=if jT k y a=ao then y else a:=by rw[Bw.take_snoc hy,X7,<-ea];rfl
  refine(tj nx nf).go λv H2 s2 q2=>⟨_,q2,?_⟩
  cases c:jT k y a with
  |true=>
   refine jJ ⟨_,J,?_⟩;exact⟨L x,x,y,J,sm.trans s2,aI _ _ _ _ (sm.trans s2) ry,by rw[wR,c];rfl⟩
  |false=>
   exact⟨L x,vf,a,J,sm.trans s2,aI.up s2 ra,by rw[wR,c];rfl⟩
 ·obtain⟨x2,vf,a,rfl,sm,ra,ea⟩:=I
  rw[ha.bH,mi] at ea;exact⟨_,J,kk.ok H' _ a sm (by rw[ea];rfl) ra⟩
theorem IV:bF ["numbers","found","x"] ["numbers"] (ba<|aO 51):=fs
theorem ok_greatest(F:bh K "greatest" "greatest" (aO 51) f fd)(G1:Gf K mg "is_below" q_ f1 bZ ["x","y"])(k:aB):aD P w K mg base (aQ P w M) 10 f fd ["numbers"] (Jg K M k λl=>Qn k l):=by
 have O1:aD P w K mg base (aQ P w M) 5 f1 bZ _<|oV K M k:=(xB G1.F k).gz.aV dc;refine F.p1 IV λH Q E l w1 hr qN kk=>?_;obtain⟨h1,gZ,hk⟩:=qN;refine⟨_,aG (bC 1 IV.nd<|d4 kr (O 0) a_ λ_ _=>J) (aG (nZ mI J (jm<|O 0) (eC 2 IV.nd)<|aR (dU (i7<|cM O1 (hr.aV dc) J G1.m G1.F.kp G1.b .nil aA (bK (O 1)<|O 2)) (aR (bC 1 IV.nd<|O 2)) d7))<|aR (bp<|O 1)),?_⟩;have g0:l[0]? =L (l.headD 0):=by cases l with
  |nil=>exact absurd J gZ
  |cons a t=>rfl
 refine j3 (qU aI (aj (C:=M) (E:=E) J (cE aI) h1) (iP iq J) g0) λv0 U s1 q0=>?_;obtain⟨p,lv,rfl,hp,ha⟩:=h1;refine⟨_,J,p,J,⟨lv,s1.seq hp⟩,?_⟩;refine AY (λj aS H'=>E3 λ(x2:au V)(vf:V)(a:ag)=>A4 (aS=[L _,L vf,x2]) (az H H') (RC K k H' vf a)<|a=(l.take j).foldl (λa b=>if jT k a b=ao then b else a) (l.headD 0))
  ⟨ah,v0,_,J,s1,q0,J⟩ (λj aS H' _ dW=>by obtain⟨_,_,_,_,sm,_⟩:=dW;exact sm.seq hp) (λj x aS H' hx I=>?_) λaS H' I=>?_
 ·obtain⟨x2,vf,a,rfl,sm,ra,ea⟩:=I
  obtain⟨y,hy,ry⟩:=ha.get hx;have nx:NT M E _ _ [L<|.ref p,L vf,L x] H'<|aw 2:=(aj J aI<|aI.up sm ry).cZ λ_ _ _=>dS hk;have nf:NT M E _ _ [L<|.ref p,L vf,L x] H'<|aw 1:=(aj J aI ra).cZ λ_ _ _=>dS hk;have wR:(l.take<|j+1).foldl (λa b=>if jT k a b=ao then b else a) (l.headD 0)=if jT k a y=ao then y else a:=by rw[Bw.take_snoc hy,X7,<-ea];rfl
  refine(tj nf nx).go λv H2 s2 q2=>⟨_,q2,?_⟩
  cases c:jT k a y with
  |true=>
   refine jJ ⟨_,J,?_⟩;exact⟨L x,x,y,J,sm.trans s2,aI _ _ _ _ (sm.trans s2) ry,by rw[wR,c];rfl⟩
  |false=>
   exact⟨L x,vf,a,J,sm.trans s2,aI.up s2 ra,by rw[wR,c];rfl⟩
 ·obtain⟨x2,vf,a,rfl,sm,ra,ea⟩:=I
  rw[ha.bH,mi] at ea;exact⟨_,J,kk.ok H' _ a sm (by rw[ea];rfl) ra⟩
def zX(k:aB)(D5:ag)(bs:af fu):au<|af ag:=(bf (wB k D5) bs).map λl=>(l.zipIdx.filter λx=>x.1).map λx=>x.2
theorem slowF_eq(k:aB)(D5:ag)(w:rY):Rb49.slow k D5 w=zX k D5 w.bodies:=by
 unfold Rb49.slow zX;rw[Bw.xh]
def vv(l:af df):af ag:=(l.zipIdx.filter λx=>x.1).map λx=>x.2
theorem UT(l:af df)(b:df):vv (l++[b])=vv l++(if b=ao then [l.length] else []):=by
 unfold vv;rw[List.zipIdx_append,List.filter_append,Cv]
 cases b<;>simp
theorem picks_len(l:af df):(vv l).length<=l.length:=by
 unfold vv;rw[ie];exact dN (List.length_filter_le _ _)<|by simp
abbrev Oy(K:aq)(M CK CB:ak)(k:aB):Sp:=cU M (aE (RK CK k) (aE (wA K CB k)<|aE (RC K k) cg)) (fG fH) λx=>zX k x.2.2.1 x.2.1
theorem EZ:bF ["kind","bodies","limit","found","i","body","v"] ["kind","bodies","limit"] (ba<|aO 53):=fs
theorem ok_slow{f f3:ak}{fd fv:c7}(F:bh K "slow_ones" "slow_ones" (aO 53) f fd)(TC:jB mg)(B:BM P w K mg base M CK CB)(G3:Gf K mg "is_below" q_ f3 fv ["x","y"])(k:aB):aD P w K mg base (aQ P w M) 20 f fd ["kind","bodies","limit"]<|Oy K M CK CB k:=by
 have O3:aD P w K mg base (aQ P w M) 5 f3 fv ["x","y"]<|oV K M k:=(xB G3.F k).gz.aV dc;refine F.p3 EZ λH Q E _ bs kz w1 w2 w3 hr h1 gY h3 kk=>?_;obtain⟨h2,oH⟩:=gY;have hk:=h1.1;have oH:bs.length<=4096:=oH
 refine⟨_,aG (bC 3 EZ.nd<|gr vm) (aG (nZ mI J (M5 J TC.K9 (bz<|O 1)) (BH J (qk (eC 4 EZ.nd)<|qk (eC 5 EZ.nd) BI))
  (aG (bC 6 EZ.nd<|B.hf.c k hr aA (bK (O 0)<|O 5))
  (aR (dU (i7 (cM O3 (hr.aV dc) J G3.m G3.F.kp G3.b .nil aA<|bK (B.V.dot.c k hr aA (bG (O 0) (O 6)<|O 6))<|O 2)) (aR (qp<|vp wx CT CV Bt (O 3) (bz<|O 4))) d7))))
  (aR (bp<|O 3))),?_⟩
 have kk:bQ M (fG fH) H ((bf (wB k kz) bs).map vv) Q E:=kk;refine⟨eM _,λl hl=>?_⟩;have sl:az H (aC H l<|.lst []):=az.new hl;obtain⟨p,bv,rfl,hp,ha⟩:=h2;refine⟨_,J,p,bv,J,sl.seq hp,?_⟩;refine Lh (K:=K) (xs:=bv) (λj aS H'=>E4 λ(x4 x5 x6:au V)(zs:af df)=>A4 (aS=[L w1,L<|.ref p,L w3,L<|.ref l,x4,x5,x6]) (az H H') (H' l=L (.lst ((vv zs).map λ(n:ag)=>V.int (n:ae))))<|bf (wB k kz) (bs.take j)=L zs)
  ⟨ah,ah,ah,[],J,sl,bw,by rw[m9];rfl⟩ (λj aS H' _ gw=>by obtain⟨_,_,_,_,_,sm,_⟩:=gw;exact sm.seq hp) (λj x T aS H' hx I hT=>?_) λaS H' I=>?_
 ·obtain⟨x4,x5,x6,zs,rfl,sm,eL,ez⟩:=I
  obtain⟨b,hb,rb⟩:=ha.get hx;have hj:j<bs.length:=(List.getElem?_eq_some_iff.mp hb).1;have lz:zs.length=j:=by rw[Bw.iQ ez,kJ];lia
  have sT:az H' (aC H' T<|.tup [.int (j:ag),x]):=az.new hT;have lh:=sm.trans sT;refine AZ bw ?_;have v0:∀{σ:L2.St}{Hc:Hp},σ[0]? =L (L w1)->az H Hc->NT M E (RK CK k) (L ()) σ Hc (aw 0):=λe s=>aj e aN<|aN.up s h1;have DB:wB k kz b=ah->(bf (wB k kz) bs).map vv=ah:=λe=>by rw[Bw.IY hb e];rfl
  have n1:NT M E (R3 K k) (pB k b) [L w1,L<|.ref p,L w3,L<|.ref l,L<|.int (j:ag),L x,x6] (aC H' T<|.tup [.int (j:ag),x]) _:=cT (t:=L ((),b,())) (f:=λx=>pB k x.2.1) (aF aN (v0 J lh)<|aF cD (aj (i:=5) J cD<|cD.up lh rb) bR);refine n1 _ _ sr ⟨λH2 uv v s2 ev qv=>?_,λH2 s2 e=>kk.no H2 (lh.trans s2)<|DB (by unfold wB;rw[e];rfl)⟩;have dP:=lh.trans s2;have n2:NT M E (RC K k) (mr k v v) [L w1,L<|.ref p,L w3,L<|.ref l,L<|.int (j:ag),L x,L uv] H2 _:=HQ (g:=mr k) (r:=L v) (s:=L v) (v0 J dP) (aj (i:=6) J bS qv)<|aj (i:=6) J bS qv;have n3:NT M E (RN K k) (L kz) [L w1,L<|.ref p,L w3,L<|.ref l,L<|.int (j:ag),L x,L uv] H2<|aw 2:=(aj (i:=2) J aI<|aI.up dP h3).cZ λ_ _ _=>dS hk;have n4:=cT (R:=RB) (f:=λx=>L<|jT k x.1 x.2.1) (aF eP (n2.cZ λ_ _ _=>dS hk)<|aF eP n3 bR);have n4:NT M E RB ((mr k v v).map λn=>jT k n kz) _ H2 _:=n4.eq<|by cases mr k v v<;>rfl
  have Rr:wB k kz b=(mr k v v).map λn=>jT k n kz:=by unfold wB;rw[ev];rfl
  refine n4 H2 _ sr ⟨λH3 vc c s3 ec qc=>⟨_,qc,?_⟩,λH3 s3 e=>kk.no H3 (dP.trans s3) (DB<|Rr.trans e)⟩;have gL:=dP.trans s3;have uE:=((sT.trans s2).trans s3) _ _ eL;have GJ:bf (wB k kz) (bs.take<|j+1)=L (zs++[c]):=by rw[BX hb,ez,Rr,ec];rfl
  cases c with
  |true=>
   refine jJ ⟨_,J,.inl ⟨J,_,SqL.of uE⟩,_,J,l,_,_,J,J,uE,?_,?_⟩
   ·rw[ie]
    exact wq (dN (picks_len zs) (by lia:zs.length<=4096)) dc
   ·refine⟨L<|.int (j:ag),L x,L uv,zs++[ao],J,λq o e=>?_,?_,GJ⟩
    ·rw[bJ<|dy e hl];exact gL _ _ e
    ·rw[bw,UT,aK J,lz,Cv]
     rfl
  |false=>
   refine pX ?_;exact⟨L<|.int (j:ag),L x,L uv,zs++[aM],J,gL,by rw[UT,ay dc,pj];exact uE,GJ⟩
 ·obtain⟨x4,x5,x6,zs,rfl,sm,eL,ez⟩:=I
  rw[ha.bH,mi] at ez;exact⟨_,J,kk.ok H' _ (vv zs) sm (by rw[ez];rfl) ⟨l,_,J,eL,cf.Td λn _=>J⟩⟩
end
end BW
namespace BW
open PySem PySem.Spec PyProof.Rows L2
open Bw (bV cV bg cq)
inductive kL(K:aq)(k:aB)(H:Hp)(v:V)(p:dR):Prop
 |mk:∀a x y z,v= .ref a->((SqL K H a [x,y,z]\/cH K H a [x,y,z]))->RC K k H x p.x->RC K k H y p.y->RC K k H z p.z->kL K k H v p
section
variable{K:aq}{M CK:ak}{E:XK}{σ:L2.St}{H:Hp}{te t0 t1 t2 t3:TE}{k:aB}
theorem nV:cY<|kL K k:=λ_ _ _ _ s dm=>by obtain⟨a,x,y,z,e,h,h1,h2,h3⟩:=dm;exact⟨a,x,y,z,e,h.imp (λq=>s.seq q) λq=>s.tup q,aI.up s h1,aI.up s h2,aI.up s h3⟩
theorem r3s_of(h:R3 K k H v p):kL K k H v p:=let⟨a,x,y,z,e,h,h1,h2,h3⟩:=h;⟨a,x,y,z,e,.inr h,h1,h2,h3⟩
theorem MD(h:NT M E (kL K k) (L p) σ H te):NT M E (RC K k) (L p.x) σ H<|bY (tF K) te (tC<|.int 0):=xy 0 h λ_ _ dW=>by obtain⟨a,x,y,z,e,r,h1,h2,h3⟩:=dW;exact⟨a,_,x,e,r,J,h1⟩
theorem ME(h:NT M E (kL K k) (L p) σ H te):NT M E (RC K k) (L p.y) σ H<|bY (tF K) te (tC<|.int 1):=xy 1 h λ_ _⟨a,x,y,z,e,r,h1,h2,h3⟩=>⟨a,_,y,e,r,J,h2⟩
theorem MF(h:NT M E (kL K k) (L p) σ H te):NT M E (RC K k) (L p.z) σ H<|bY (tF K) te (tC<|.int 2):=xy 2 h λ_ _⟨a,x,y,z,e,r,h1,h2,h3⟩=>⟨a,_,z,e,r,J,h3⟩
abbrev N4(K:aq)(M CK:ak)(k:aB)(g:dR->dR->au dR):Sp:=cU M (aE (RK CK k) (aE (R3 K k)<|aE (kL K k) cg)) (R3 K k) λx=>g x.2.1 x.2.2.1
abbrev N5(K:aq)(M CK:ak)(k:aB)(g:dR->ag->dR->au dR):Sp:=cU M (aE (RK CK k)<|aE (kL K k) (aE (RC K k)<|aE (R3 K k) cg)) (R3 K k) λx=>g x.2.1 x.2.2.1 x.2.2.2.1
abbrev V9(K:aq)(M CK:ak)(k:aB)(g:uk->dR->au dR):Sp:=cU M (aE (RK CK k) (aE (R4 K k)<|aE (kL K k) cg)) (R3 K k) λx=>g x.2.1 x.2.2.1
abbrev spCrS(K:aq)(M CK fD:ak)(k:aB)(g:ag->ag->ag->ag->au ag):Sp:=cU M (aE (RK CK k)<|aE (RF fD) (aE (R3 K k)<|aE (kL K k) cg)) (R3 K k) λx=>DG g x.2.2.1 x.2.2.2.1
theorem Uh(h0:NT M E (RK CK k) (L ()) σ H t0)(h1:NT M E (R3 K k) r σ H t1)(h2:NT M E (kL K k) s σ H t2):NT M E (R3 K k) (r.bind λa=>s.bind λb=>g a b) σ H (d_ (N4 K M CK k g) [] E<|aU t0 (aU t1<|aU t2 b8)):=NT.eq (cT<|aF aN h0 (aF bS h1<|aF nV h2 bR))<|by cases r<;>cases s<;>rfl
theorem nt_g3s13(h0:NT M E (RK CK k) (L ()) σ H t0)(h1:NT M E (kL K k) r σ H t1)(h2:NT M E (RC K k) c σ H t2)(h3:NT M E (R3 K k) s σ H t3):NT M E (R3 K k) (r.bind λa=>c.bind λx=>s.bind λb=>g a x b) σ H<|d_ (N5 K M CK k g) [] E (aU t0<|aU t1 (aU t2<|aU t3 b8)):=NT.eq (cT (aF aN h0<|aF nV h1 (aF aI h2<|aF bS h3 bR)))<|by cases r<;>cases c<;>cases s<;>rfl
end
section
variable{P:cO}{w:World}{K:aq}{mg:ax->au aH}{base:b9}{M CK CB:ak}
theorem ok_crossedS(F:bh K "crossed" "crossed" (aO 25) f fd)(k:aB)(g:ag->ag->ag->ag->au ag)(OD:aD P w K mg base (aQ P w M) 5 fD fdD ["kind","p","q","r","s"]<|Ff K M CK k g)(kD:jx K (.ref fD)=ao)(bD:Binds K fdD ["kind","p","q","r","s"] []):aD P w K mg base (aQ P w M) 6 f fd ["kind","difference","a","b"]<|spCrS K M CK fD k g:=by
 refine F.p4 VO λH Q E _ _ p3 p4 w1 w2 w3 w4 hr h1 h2 h3 h4 kk=>?_
 refine⟨_,aR (bp (fV (dC (zI (O 1) OD hr kD bD aA (dC (O 0) (dC (aX<|O 2) (bG (d4 ji (O 3) a_ λ_ _=>J) (aX<|O 2)<|d4 ji (O 3) a_ λ_ _=>J))))
  (dC (zI (O 1) OD hr kD bD aA (dC (O 0) (dC (aX<|O 2) (bG (d4 ji (O 3) a_ λ_ _=>J) (aX<|O 2)<|d4 ji (O 3) a_ λ_ _=>J))))
  (bz<|zI (O 1) OD hr kD bD aA (dC (O 0) (dC (aX<|O 2) (bG (d4 ji (O 3) a_ λ_ _=>J) (aX<|O 2)<|d4 ji (O 3) a_ λ_ _=>J)))))))),?_⟩
 have v0:NT M E _ _ [L w1,L w2,L w3,L w4] H<|aw 0:=aj J aN h1;have v1:NT M E (RF fD) (L ()) [L w1,L w2,L w3,L w4] H<|aw 1:=aj J kU h2;have v2:NT M E (R3 K k) (L p3) [L w1,L w2,L w3,L w4] H<|aw 2:=aj J bS h3;have v3:NT M E (kL K k) (L p4) [L w1,L w2,L w3,L w4] H<|aw 3:=aj J nV h4;exact kk.by (qg (BB v1 v0 (jk v2) (MF v3) (jl v2)<|ME v3) (BB v1 v0 (jl v2) (MD v3) (jj v2)<|MF v3) (BB v1 v0 (jj v2) (ME v3) (jk v2)<|MD v3))
theorem ok_crossS(F:bh K "cross" "cross" (aO 28) f fd)(aJ:KM P w K mg base M CK)(G1:Gf K mg "crossed" (aO 25) f1 bZ ["kind","difference","a","b"])(G2:Gf K mg "plain_difference" (aO 26) f2 di ["kind","p","q","r","s"])(k:aB):aD P w K mg base (aQ P w M) 7 f fd ["kind","a","b"] (N4 K M CK k<|lF k):=by
 have O2:=UG G2.F aJ k;have O1:=ok_crossedS G1.F k _ O2 G2.F.kp G2.b;refine F.p3 VN λH Q E _ p2 p3 w1 w2 w3 hr h1 h2 h3 kk=>?_;refine⟨_,aR<|bp (cM O1 hr J G1.m G1.F.kp G1.b .nil aA<|dC (O 0) (bG (dH J G2.m (v:=.ref f2) J) (O 1)<|O 2)),?_⟩;exact kk.by<|cT (t:=L ((),(),p2,p3,())) (f:=λx=>DG (Ll k) x.2.2.1 x.2.2.2.1) (aF aN (aj J aN h1)<|aF kU (iP kU J) (aF bS (aj J bS h2)<|aF nV (aj J nV h3) bR))
theorem ok_alongS(F:bh K "along" "along" (aO 22) f fd)(aJ:KM P w K mg base M CK)(k:aB):aD P w K mg base (aQ P w M) 5 f fd ["kind","p","c","d"]<|N5 K M CK k λp c d=>ja k c d p:=by
 obtain⟨f1,bZ,M1,b1,O1⟩:=aJ.ma;refine F.p4 VL λH Q E _ p2 p3 p4 w1 w2 w3 w4 hr h1 h2 h3 h4 kk=>?_;refine⟨_,aR (bp (fV (bG (bW (O 0) aJ.T.cl M1 (O1 k) hr b1 .nil aA (bG (O 2) (aX<|O 3)<|d4 ji (O 1) a_ λ_ _=>J)) (bW (O 0) aJ.T.cl M1 (O1 k) hr b1 .nil aA (bG (O 2) (aX<|O 3)<|d4 ji (O 1) a_ λ_ _=>J)) (bW (O 0) aJ.T.cl M1 (O1 k) hr b1 .nil aA (bG (O 2) (aX<|O 3)<|d4 ji (O 1) a_ λ_ _=>J))))),?_⟩;have v0:NT M E _ _ [L w1,L w2,L w3,L w4] H<|aw 0:=aj J aN h1;have v1:NT M E (kL K k) (L p2) [L w1,L w2,L w3,L w4] H<|aw 1:=aj J nV h2;have v2:NT M E (RC K k) (L p3) [L w1,L w2,L w3,L w4] H<|aw 2:=aj J aI h3;have v3:NT M E (R3 K k) (L p4) [L w1,L w2,L w3,L w4] H<|aw 3:=aj J bS h4;exact kk.by (qg (qW h1.1 v0 v2 (jj v3)<|MD v1) (qW h1.1 v0 v2 (jk v3)<|ME v1) (qW h1.1 v0 v2 (jl v3)<|MF v1))
theorem ok_tuS{f:ak}{fd:c7}(F:bh K "turned" "turned" (aO 38) f fd)(W:VM P w K mg base M CK)(A1:cX P w K mg base M 7 "cross" ["kind","a","b"] λk=>N4 K M CK k<|lF k)(A3:cX P w K mg base M 7 "along" ["kind","p","c","d"] λk=>N5 K M CK k λp c d=>ja k c d p)(k:aB):aD P w K mg base (aQ P w M) 8 f fd ["kind","t","r"] (V9 K M CK k<|pC k):=by
 obtain⟨f1,bZ,m1,k1,b1,O1⟩:=A1;obtain⟨f2,di,m2,k2,b2,O2⟩:=W.add;obtain⟨f3,fv,m3,k3,b3,O3⟩:=A3;refine F.p3 qB λH Q E _ q r w1 w2 w3 hr h1 h2 h3 kk=>?_
 refine⟨_,aG (bC 3 qB.nd (fV (bG (aX<|O 1) (aX<|O 1) (aX<|O 1))))
  (aG (bC 4 qB.nd<|cM (O1 k) hr J m1 k1 b1 .nil aA (bG (O 0) (O 3)<|O 2))
  (aG (bC 5 qB.nd<|cM (O2 k) hr J m2 k2 b2 .nil aA (bG (O 0) (O 4)<|O 4))
  (aG (bC 6 qB.nd<|cM (O1 k) hr J m1 k1 b1 .nil aA (bG (O 0) (O 3)<|O 5))
  (aG (bC 7 qB.nd (cM (O3 k) hr J m3 k3 b3 .nil aA (dC (O 0)<|bG (O 2) (aX<|O 1)<|O 5)))
  (aR (bp<|cM (O2 k) hr J m2 k2 b2 .nil aA (bG (O 0) (O 7)<|O 6))))))),?_⟩
 have n1:NT M E (R3 K k) (L q.axis) [L w1,L w2,L w3,ah,ah,ah,ah,ah] H (lq (aU (bY (dI K) (aw 1) (tC<|.int 1))<|aU (bY (dI K) (aw 1) (tC<|.int 2))<|aU (bY (dI K) (aw 1) (tC<|.int 3)) b8)):=qg (r:=L q.x) (s:=L q.y) (t:=L q.z) (El<|aj J gA h2) (Em<|aj J gA h2) (En<|aj J gA h2);refine j3 n1 λu3 H3 s3 q3=>?_;have c3:=aN.up s3 h1;have t3:=gA.up s3 h2;have p3:=nV.up s3 h3;refine bQ.bind (rb:=lF k q.axis r) (kk.at_ s3) (Uh (g:=lF k) (r:=L q.axis) (s:=L r) (aj J aN c3) (aj J bS q3)<|aj J nV p3) λy4 u4 H4 s4 _ q4 k4=>?_;refine bQ.bind (rb:=iZ k y4 y4) k4 (kX (g:=iZ k) (r:=L y4) (s:=L y4) (aj J aN<|aN.up s4 c3) (aj J bS q4)<|aj J bS q4) λy5 u5 H5 s5 _ q5 k5=>?_;have zR:=s4.trans s5;refine bQ.bind (rb:=lF k q.axis y5) k5 (Uh (g:=lF k) (r:=L q.axis) (s:=L y5) (aj J aN<|aN.up zR c3) (aj J bS<|bS.up zR q3) ((aj J bS q5).cZ λ_ _ _=>r3s_of)) λy6 u6 H6 s6 _ q6 k6=>?_;have vH:=zR.trans s6;refine bQ.bind (rb:=ja k q.w y5 r) k6 (nt_g3s13 (g:=λp c d=>ja k c d p) (r:=L r) (c:=L q.w) (s:=L y5) (aj J aN<|aN.up vH c3) (aj J nV<|nV.up vH p3) (Ek (aj J gA<|gA.up vH t3)) (aj J bS<|bS.up s6 q5)) λy7 u7 H7 s7 _ q7 k7=>?_;exact k7.by (kX (g:=iZ k) (r:=L y7) (s:=L y6) (aj J aN<|aN _ _ _ _ (vH.trans s7) c3) (aj J bS q7) (aj J bS<|bS.up s7 q6))
abbrev Jh(K:aq)(M CK CB:ak)(k:aB):Sp:=cU M (aE (RK CK k) (aE (cp K CB k)<|aE (kL K k) cg)) (R3 K k) λx=>(pC k x.2.1.turn x.2.2.1).bind λa=>iZ k x.2.1.at_ a
theorem scPP:bF ["kind","body","r"] ["kind","body","r"] (ba<|aO 48):=fs
theorem ok_pointPlace(F:bh K "point_place" "point_place" (aO 48) f fd)(B:BM P w K mg base M CK CB)(A1:cX P w K mg base M 10 "turned" ["kind","t","r"] λk=>V9 K M CK k<|pC k)(k:aB):aD P w K mg base (aQ P w M) 12 f fd ["kind","body","r"]<|Jh K M CK CB k:=by
 have TB:=B.TB;refine F.p3 scPP λH Q E _ b r w1 w2 w3 hr h1 h2 h3 kk=>?_;refine⟨_,aR<|bp (B.V.add.c k hr aA (bG (O 0) (bu<|O 1) (A1.c k hr aA<|bG (O 0) (bu<|O 1)<|O 2))),?_⟩;have v0:NT M E _ _ [L w1,L w2,L w3] H<|aw 0:=aj J aN h1;have v1:NT M E _ _ [L w1,L w2,L w3] H<|aw 1:=aj J cD h2;have nt:NT M E (R3 K k) (pC k b.turn r) _ H _:=cT (t:=L ((),b.turn,r,())) (f:=λx=>pC k x.2.1 x.2.2.1)<|aF aN v0 (aF gA (xt TB v1)<|aF nV (aj (i:=2) J nV h3) bR);exact kk.by<|kX v0 (zx TB v1) nt
end
end BW
namespace BW
open PySem PySem.Spec PyProof.Rows L2
open Bw (bV cV bg cq bf)
section
variable{P:cO}{w:World}{K:aq}{mg:ax->au aH}{base:b9}{M CK CB:ak}
def Qk(m:ag):bE ag:=λ_ v n=>v= .int n/\n<m
theorem Tw:cY<|Qk m:=λ_ _ _ _ _ h=>h
abbrev Wt(K:aq)(M CB:ak)(k:aB):Sp:=cU M (aE (cp K CB k) (aE (Qk 20)<|aE (RC K k) cg)) (cp K CB k) λx=>L (AQ<|(nz x.1).set x.2.1 x.2.2.1)
theorem VJ:bF ["body","what","x","numbers"] ["body","what","x"] (ba<|aO 45):=fs
theorem ok_with(F:bh K "with_number" "with_number" (aO 45) f fd)(TC:jB mg)(TB:iU K mg CB)(mB:mg "Body"=L (.ref CB))(MB:Mk K CB fB)(OB:∀k,aD P w K mg base (aQ P w M) 10 fB GO ["self","numbers"]<|Fg K M CB k)(bB:Binds K GO ["self","numbers"] [])(Cy:pq K CB "twenty" fT)(rS:∀k,aD P w K mg base (aQ P w M) 10 fT uF ["self"]<|vN K M CB k)(Dh:Binds K uF ["self"] [])(k:aB):aD P w K mg base (aQ P w M) 14 f fd ["body","what","x"]<|Wt K M CB k:=by
 refine F.p3 VJ λH Q E b n x w1 w2 w3 hr h1 gY h3 kk=>?_;obtain⟨h2,hn⟩:=gY;subst h2;have hn:n<20:=hn;refine⟨_,aG (bC 3 VJ.nd<|nX KW J TC.list Q0 (bz<|eu (O 0) TB.cl Cy (rS k) (hr.aV dc) Dh .nil aA)) (aG (zM (O 2)<|zJ (O 3) (O 1) zW)<|aR (bp<|oN MB (OB k) (hr.aV dc) J mB bB .nil aA (bz<|O 3))),?_⟩;refine(MS<|aj J cD h1).go λv U s1⟨p,vs,e,hp,ha⟩=>?_;subst e;refine⟨p,vs,J,.inr hp,λl hl=>?_⟩;have dJ:vs.length=20:=ha.bH;have zh:kQ vs.length n=L n:=by unfold kQ;rw[aK<|by lia,aK om,kI]
 refine⟨_,J,_,J,_,J,l,vs,n,n,J,J,bw,zh,?_⟩;have s2:az U (aC U l<|.lst vs):=az.new hl;have t3:cw U (aC (aC U l<|.lst vs) l (.lst<|vs.set n w3)):=s2.i.1.trans<|cw.aC (by rw[bw];trivial);have sb:az H (aC (aC U l<|.lst vs) l (.lst<|vs.set n w3)):=λc o e=>by
  have hc:=dy (s1 _ _ e) hl;rw[bJ hc,bJ hc];exact s1 _ _ e
 have Na:CY K k (aC (aC U l<|.lst vs) l (.lst<|vs.set n w3)) _ _:=⟨.inl ⟨l,_,J,SqL.of bw,(ha.imp λv x=>dw _ _ _ _ t3).set n<|dw _ _ _ _ (s1.i.1.trans t3) h3⟩,by rw[pk];rfl⟩;exact kk.gX sb<|zB (t:=L ((nz b).set n x,())) (f:=λx=>L<|AQ x.1)<|aF D9 (aj J D9 Na) bR
def Gu(bs:af fu)(j:ag):af ag:=bs.map λb=>b.at_.list.getD j 0
abbrev N9(K:aq)(M CB:ak)(k:aB):Sp:=cU M (rX (aE (wA K CB k) cg) λx=>x.1≠[]/\bV k) (fG<|RC K k) λx=>L<|Rb49.box k {bodies:=x.1}
theorem vI:bF ["bodies","columns","k","body","column"] ["bodies"] (ba<|aO 52):=fs
theorem ok_box{f:ak}{fd:c7}(F:bh K "box_of" "box_of" (aO 52) f fd)(TC:jB mg)(TB:iU K mg CB)(A1:cX P w K mg base M 10 "least" ["numbers"] λk=>Jg K M k<|Qo k)(A2:cX P w K mg base M 10 "greatest" ["numbers"] λk=>Jg K M k<|Qn k)(k:aB):aD P w K mg base (aQ P w M) 20 f fd ["bodies"]<|N9 K M CB k:=by
 obtain⟨f1,bZ,m1,k1,b1,O1⟩:=A1;obtain⟨f2,di,m2,k2,b2,O2⟩:=A2;refine F.oc vI λH Q E hr h=>?_;sleep 3;obtain⟨⟨bs,_⟩,⟨ar15,gZ,hk⟩,kk⟩:=h;sleep 4;refine ar15.c1 λw1 uM=>?_;obtain⟨h1,oH⟩:=uM
 refine⟨_,aG (BJ (i:=1) (own:=[("k",2)]) (te:=mP (zf K<|aw 0) (eI 3) oZ (bY (dI K) (c9 K (aw 3) "place")<|aw 2) [3]) J J J (jZ (E:=E)) J vI.nd J J (B7 J J J J) (zK J TC.range<|bz a_) bk (λ_ _ _ _ _=>eC 2 vI.nd) (λ_ _ _ _ _=>jo)
  (λ_ _ _ _ _=>UR (own:=[("body",3)]) J vI.nd (jm<|O 0) bk (λ_ _ _ _ _=>eC 3 vI.nd) (λ_ _ _ _ _=>jo) λ_ _ _ _ _=>d4 uQ (bu<|O 3) (O 2) λ_ _=>J))
  (aR (bp (bO ve (oM (own:=[("column",4)]) J J J jZ J vI.nd (jm<|O 1) bk (λ_ _ _ _ _=>eC 4 vI.nd) (λ_ _ _ _ _=>jo) λ_ _ _ _ _=>cM (O1 k) (hr.aV dc) J m1 k1 b1 .nil j1 (bz<|O 4)) (oM (own:=[("column",4)]) J J J jZ J vI.nd (jm<|O 1) bk (λ_ _ _ _ _=>eC 4 vI.nd) (λ_ _ _ _ _=>jo) λ_ _ _ _ _=>cM (O2 k) (hr.aV dc) J m2 k2 b2 .nil j1 (bz<|O 4))))),?_⟩
 refine⟨3,J,dc,dc,λD hD=>?_⟩;refine Ht (lo:=0) (n:=3) (λj Hc=>az H Hc/\ ∃cv:af V,Hc D=L (.lst cv)/\cf (λv l=>∃p vs,v= .ref p/\Hc p=L (.lst vs)/\cf (RC K k Hc) vs l/\p≠D) cv ((iC j).map<|Gu bs)) ⟨az.new hD,[],bw,ck⟩ (λj Hc hj I=>?_) λHc I=>?_
 ·obtain⟨sm,cv,eD,ac⟩:=I
  refine⟨J,?_⟩;rw[wc];unfold oZ;refine jJ ?_;have ni:NT M E (jy Hc<|RC K k) (L<|Gu bs j) ((da [L w1,ah,ah,ah,ah] [2]).set 2 (L<|.int (j:ae))) Hc _:=(Ul (i:=3) (vs:=[3]) (R:=RC K k) (R':=cp K CB k) dw.i.mO aI cD (aj (i:=0) J (cE cD)<|cE cD _ _ _ _ sm h1) (dN oH dc) (λ_=>J) λH2 v b s2 _ rb=>Eo aI ((zx TB<|aj (i:=3) J cD rb).conv λ_ _=>qt) (aj (i:=2) J iq J)<|S' b.at_ hj).eq<|Bw.l9 _
  refine ni.go λv H2 s2⟨p,vs,e,hp,ha,hn⟩=>?_;subst e;have pD:p≠D:=λz=>by rw[z,eD] at hn;cases hn
  refine⟨cv,s2 _ _ eD,?_,λc o e=>?_,cv++[.ref p],bw,?_⟩
  ·rw[ac.bH,ie,wm]
   exact Yo hj dc
  ·rw[bJ<|dy e hD]
   exact s2 _ _<|sm _ _ e
  ·have t3:cw H2<|aC H2 D (.lst<|cv++[V.ref p]):=cw.aC (by rw[s2 _ _ eD];trivial)
   rw[List.range_succ,Cv];exact(ac.imp λv l mX=>by obtain⟨q,us,e,hq,hu,nq⟩:=mX;exact⟨q,us,e,by rw[bJ nq];exact s2 _ _ hq,hu.imp λv x=>dw _ _ _ _<|s2.i.1.trans t3,nq⟩).snoc ⟨p,vs,J,by rw[bJ pD];exact hp,ha.imp λv x=>dw _ _ _ _ t3,pD⟩
 ·obtain⟨sm,cv,eD,ac⟩:=I
  have hcol:∀j,Gu bs j≠[]:=λj z=>gZ (by unfold Gu at z;exact List.map_eq_nil_iff.mp z)
  have rc:RL K (CZ K k) Hc (.ref D) _:=⟨D,cv,J,SqL.of eD,cf.MT ac.bH λi v l h1 h2=>by
   obtain⟨p,vs,e,hp,ha,_⟩:=ac.at_ h1 h2;refine⟨⟨p,vs,e,SqL.of hp,ha⟩,?_⟩;obtain⟨j,_,rfl⟩:=List.mem_map.mp (j' h2)
   exact⟨hcol j,hk⟩⟩
  have nl:NT M E (fG<|RC K k) _ [L w1,L<|.ref D,ah,ah,ah] Hc _:=(HU (i:=4) (vs:=[4]) (R:=RC K k) (R':=CZ K k) dw.i.mO aI xk (aj (i:=1) J (cE xk) rc) (by show 3<=bI;decide) (λ_=>J) λH2 v l s2 _ r=>cT (t:=L (l,())) (f:=λx=>L<|Qo k x.1)<|aF xk (aj (i:=4) J xk r) bR).eq<|Bw.l9 _;have ng:NT M E (fG<|RC K k) _ [L w1,L<|.ref D,ah,ah,ah] Hc _:=(HU (i:=4) (vs:=[4]) (R:=RC K k) (R':=CZ K k) dw.i.mO aI xk (aj (i:=1) J (cE xk) rc) (by show 3<=bI;decide) (λ_=>J) λH2 v l s2 _ r=>cT (t:=L (l,())) (f:=λx=>L<|Qn k x.1)<|aF xk (aj (i:=4) J xk r) bR).eq<|Bw.l9 _;exact kk.gX sm<|MH aI nl ng λa b ea eb=>by cases ea;cases eb;show 3+3<=bI;decide
end
end BW
namespace BW
open PySem PySem.Spec PyProof.Rows L2
open Bw (bV cV bg cq Gives fh hm)
section
variable{P:cO}{w:World}{K:aq}{mg:ax->au aH}{base:b9}{M CK:ak}
theorem ok_hmH(F:bh K "has_minus" "has_minus" rf f fd):FA P w K mg base ib 1 f fd ["x"]<|rj K M:=by
 sleep 3;obtain⟨oc,od,kV,dX,pm,an,cj,ct,vi,rfl,lk,my⟩:=F.ex;sleep 4;refine fnH_of lk my VB (λvs H Q E h=>?_) λA bA s H vs Q E hr h=>?_
 ·obtain⟨t,⟨v,r,rfl,_,rfl⟩,_⟩:=h
  rfl
 ·obtain⟨⟨p,_⟩,⟨v,r,rfl,⟨a,rfl,hp⟩,rfl⟩,k⟩:=h
  refine⟨_,aR (bp (M0 (kE lU (aX<|O 0) a_<|cW _) (tD (xG (kE iY (aX<|O 0) a_<|cW _) (tD<|kE iY (aX<|O 0) a_<|cW _))))),?_⟩;refine⟨_,J,a,_,_,_,J,J,hp,J,_,_,J,J,_,J,d6 (λc=>?_) λc=>?_⟩
  ·refine k.xb ?_
   exact dF (.inl<|dG c)
  ·refine⟨_,J,a,_,_,_,J,J,hp,J,_,_,J,J,_,J,d6 (λd=>?_) λd=>?_⟩
   ·refine⟨_,J,a,_,_,_,J,J,hp,J,_,_,J,J,k.xb ?_⟩
    have d:p.1=0:=dG d;show decide (p.1<0\/(p.1=0/\p.2=1))=decide (p.2=1);rw[K3]
    lia
   ·refine k.xb ?_
    have c:¬p.1<0:=λz=>c<|dF z;have d:¬p.1=0:=λz=>d<|dF z;exact hX (by show¬(p.1<0\/(p.1=0/\p.2=1));omega)
abbrev U':L2.R2:=rI (λi j=>0<=j/\j<=100000/\i.natAbs<2^250) λi j=>.int<|i*2^j.toNat
theorem inf_eq(hj:bV j):(Bw.aO j-j.least+2)*2^(((j.frac+1:ag):ae)-1).toNat=(Bw.zg j:ag):=by rcases hj with rfl|rfl<;>decide+kernel
theorem Eh:kW "to_bits":=p_ _ dk
theorem MR(h0:NT M E (RK CK k) (L ()) σ H te)(h1:NT M E (RC K k) (L x) σ H t1):NT M E RI (L x) σ H (eE CK "to_bits" (OA K M CK k) [] E te<|aU t1 b8):=oJ (f:=λx=>L (x.2.1:ae)) h0 aN (λ_ _=>vD Eh.1 Eh.2.1 Eh.2.2.1 Eh.2.2.2.1 Eh.2.2.2.2)<|aF aI h1 bR
abbrev Om(K:aq)(M CK:ak)(k j:aB):Sp:=cU M (rX (aE (RK CK j)<|aE (RC K k) cg) λ_=>bV k) RI λx=>L (Ky k j x.2.1:ag)
theorem ND:bF ["self","x","nearest","infinity"] ["self","x"] (ba<|sK 3):=fs
theorem ok_nearest{f f1 f2 f3:ak}{fd bZ di fv:c7}(F:bh K "nearest_bits" "Kind.nearest_bits" (sK 3) f fd)(T:jg K mg M CK)(G1:Gf K mg "has_minus" rf f1 bZ ["x"])(G2:Gm K CK "rounded" "Kind.rounded" (sK 4) f2 di ["self","m","e"])(G3:Gm K CK "to_bits" "Kind.to_bits" (sK 2) f3 fv ["self","x"])(k j:aB):aD P w K mg base (aQ P w M) 4 f fd ["self","x"]<|Om K M CK k j:=by
 have O1:FA P w K mg base ib 1 f1 bZ ["x"]<|rj K M:=ok_hmH G1.F;have O2:aD P w K mg base (aQ P w M) 1 f2 di ["self","m","e"]<|vM K M CK j:=Eu G2.F T j;have O3:aD P w K mg base (aQ P w M) 1 f3 fv ["self","x"]<|OA K M CK j:=(UK G3.F T j).gz;refine F.oc ND λH Q E hr h=>?_;sleep 3;obtain⟨⟨_,a,_⟩,⟨ar17,hk⟩,kk⟩:=h;sleep 4;refine ar17.c2 λv v2 hj h2=>?_
 refine⟨_,aG (dU (dD iY (aX<|O 1) a_<|cW _) (aR (bp<|bW (O 0) T.cl G3.aJ O3 (hr.aV dc) G3.b .nil aA (bz<|O 1))) d7)
  (aG (ps_tryAt (ts:=oY (j7 (bY U' (bY (gu λi j=>.int<|i+j) (bY (gu λi j=>.int<|i-j) (c9 K (aw 0) "greatest")<|c9 K (aw 0) "least") (tC<|.int 2)) (bY (gu λi j=>.int<|i-j) (c9 K (aw 0) "digits") (tC<|.int 1)))<|eI 3) (WV (OO (tB (d_ (rj K M) [] E0<|aU (aw 1) b8)) (bY (gu λi j=>.int<|i+j) (aw 3)<|bY U' (tC<|.int 1)<|c9 K (aw 0) "sign_bit")<|aw 3))) (tb:=λyb Hc=>j7 (λσ H Q=>σ=yb/\eE CK "rounded" (vM K M CK j) [] (λ_ _ H'=>Hc H') (aw 0) (aU (bY (dI K) (aw 1) (tC<|.int 0))<|aU (bY (dI K) (aw 1) (tC<|.int 1)) b8) σ H Q)<|eI 2) J J J T.sD J T.sX
    (λyb Hc pl=>aR (bC 2 ND.nd<|pe_methAt (O 0) T.cl G2.aJ O2 (hr.aV dc) G2.b (λ_ _ _ _ _ I h=>UP I J h) (bK (aX<|O 1) (aX<|O 1))))
    (λpl e=>aG (bC 3 ND.nd<|bO lV (bO fC (bO iy (bu<|O 0) (bu<|O 0)) a_)<|bO iy (bu<|O 0) a_)
      (aR (bp (mJ (i7<|pe_callH O1 (hr.mark dc _) J G1.m G1.F.kp G1.b .nil xF (bz<|O 1)) (bO fC (O 3)<|bO lV a_ (bu<|O 0))<|O 3)))))
  (aR (bp<|bW (O 0) T.cl G3.aJ O3 (hr.aV dc) G3.b .nil aA (bz<|O 2)))),?_⟩
 have kk:bQ M RI H (L ((Ky k j a:ag):ae)) Q E:=kk;have hk:bV k:=hk;obtain⟨⟨q,rfl,hq⟩,fa⟩:=id h2;have hq:cH K H q [.int (bg k a).1,.int (bg k a).2]:=hq;have sm:(bg k a).1.natAbs<2^53/\ -1074<=(bg k a).2/\(bg k a).2<=971:=(cq.bg hk fa).small;refine⟨_,J,q,_,_,_,J,J,hq,J,_,_,J,J,_,J,d6 (λc1=>?_) λc1=>?_⟩
 ·have c1:(bg k a).1=0:=dG c1
  have z:(Rb49.whole k a).1=0:=by rw[<-Bw.sC,c1];rfl
  obtain⟨d1,d2⟩:=Bw.Gy j (dO k a) hj.1.expo;have ea:bg k a=(0,if dO k a=ao then 1 else 0):=by unfold bg;rw[aK z]
  have e1:bg j (fL j<|dO k a)=bg k a:=by rw[d1,ea]
  have rc:RC K j H (.ref q) (fL j<|dO k a):=⟨⟨q,J,by rw[e1];exact hq⟩,d2⟩;rw[Bw.other_zero z] at kk;exact kk.by<|MR (σ:=[L v,L<|.ref q,ah,ah]) (aj J aN hj)<|aj J aI rc
 ·have c1:¬(bg k a).1=0:=λz=>c1<|dF z
  have z:(Rb49.whole k a).1≠0:=by
   have:=Bw.sC k a;omega
  have v0:∀{E:XK}{U:Hp}{x2 x3:au V},az H U->NT M E (RK CK j) (L ()) [L v,L<|.ref q,x2,x3] U (aw 0):=λs=>aj J aN<|aN.up s hj;have v1:∀{E:XK}{U:Hp}{x2 x3:au V},az H U->NT M E (RP K) (L<|bg k a) [L v,L<|.ref q,x2,x3] U (aw 1):=λs=>aj J gO ⟨q,J,s.tup hq⟩;have it:∀(i:ag)(y:ae){E:XK}{R:bE ae},([.int (bg k a).1,.int (bg k a).2]:af V)[i]? =L (.int y)->(∀H,R H (.int y) y)->NT M E R (L y) [L v,L<|.ref q,ah,ah] H (bY (dI K) (aw 1) (tC<|.int (i:ae))):=λi y _ R hi hR=>kC (K:=K) i (v1<|az.refl H) λU u ju=>by obtain⟨b,e,r⟩:=ju;exact⟨b,_,.int y,e,r,hi,hR U⟩
  refine⟨λH'=>az H H'/\fh j (bg k a).1 (bg k a).2=ah,⟨J,?_⟩,λH'⟨s1,e1⟩=>?_⟩
  ·have b1:Bw.fQ (bg k a).1<=8000:=dN (yL sm.1) dc
   refine BC (v0<|az.refl H) (it 0 _ J λ_=>⟨J,b1⟩) (it 1 _ J λ_=>⟨J,om,om⟩) H _ (az.refl H) ⟨λU u p s1 e1 q1=>?_,λU s1 e1=>⟨s1,e1⟩⟩;obtain⟨o1,o2⟩:=Bw.other_some hj.1 z e1;subst o1;exact kk.gX s1 (MR (σ:=[L v,L<|.ref q,L u,ah]) (v0 s1)<|aj J aI ⟨q1,o2⟩)
  ·rw[Bw.other_none hj.1 z e1] at kk
   obtain⟨LI,c,dx,rfl,hc⟩:=aN.up s1 hj;have kb:=D1 LI;have ks:=NX LI;refine⟨_,J,c,CK,dx,_,_,J,hc,T.cl,T.ng,DY j,_,J,c,CK,dx,_,_,J,hc,T.cl,T.nl,zj j,_,_,J,J,_,_,J,J,_,J,c,CK,dx,_,_,J,hc,T.cl,T.nd,zi j,_,_,J,J,_,_,J,J,⟨?_,?_,?_⟩,?_⟩
   ·show(0:ae)<=((j.frac+1:ag):ae)-1;omega
   ·show((j.frac+1:ag):ae)-1<=100000;omega
   ·show(Bw.aO j-j.least+2).natAbs<2^250
    have:(2:ag)^64<=2^250:=by decide
    omega
   dsimp only[eI];rw[inf_eq LI];have eh:hm (bg k a)=dO k a:=(cq.bg hk fa).sv.hm;refine(tq (C:=M) (E:=E0)<|v1 s1).go λu H2 s2 q2=>⟨_,q2,d6 (λc3=>?_) λc3=>?_⟩
   ·rw[eh] at c3
    refine⟨_,J,_,J,c,CK,dx,_,_,J,s2 _ _ hc,T.cl,T.ns,DZ j,_,_,J,J,⟨?_,?_,by show(1:ae).natAbs<2^250;decide⟩,_,_,J,J,kk.ok H2 _ _ (s1.trans s2) J ?_⟩
    ·show(0:ae)<=((j.frac+j.expo:ag):ae);omega
    ·show((j.frac+j.expo:ag):ae)<=100000;omega
    ·show V.int (((Bw.zg j:ag):ae)+1*2^(((j.frac+j.expo:ag):ae)).toNat)=V.int ((fL j (dO k a)+Bw.zg j:ag):ae)
     rw[c3,kI,Af];unfold fL Rb49.Kind.sign;rw[aK J,XS,Bw.i6,Pt]
   ·rw[eh] at c3
    refine⟨_,J,kk.ok H2 _ _ (s1.trans s2) J ?_⟩;show V.int ((Bw.zg j:ag):ae)=V.int ((fL j (dO k a)+Bw.zg j:ag):ae);unfold fL;rw[ay c3,FR]
end
end BW
namespace BW
open PySem PySem.Spec PyProof.Rows L2
open Bw (bV cV bg cq bf og)
section
variable{C:ak}{E:XK}{σ:L2.St}{H:Hp}{ta tb t1 t2:TE}{a b:df}{K:aq}
theorem Bx(h1:NT C E RB (L a) σ H ta)(h2:a=ao->NT C E RB (L b) σ H tb):NT C E RB (L<|a&&b) σ H<|WN ta tb:=λU Q s k=>
 (h1.at_ s).go λv H2 s2 q=>⟨a,q,by
   cases a with
   |true=>exact((h2 J).at_<|s.trans s2) H2 Q sr (k.at_ s2)
   |false=>exact k.ok H2 _ aM s2 J J⟩
theorem nt_or(h1:NT C E RB (L a) σ H ta)(h2:a=aM->NT C E RB (L b) σ H tb):NT C E RB (L<|a||b) σ H<|WU ta tb:=λU Q s k=>
 (h1.at_ s).go λv H2 s2 q=>⟨a,q,by
   cases a with
   |false=>exact((h2 J).at_<|s.trans s2) H2 Q sr (k.at_ s2)
   |true=>exact k.ok H2 _ ao s2 J J⟩
theorem Us(h1:NT C E RB (L a) σ H ta):NT C E RB (L<|!a) σ H<|WT ta:=λU Q s k=>
 (h1.at_ s).go λv H2 s2 q=>⟨a,q,k.ok H2 _ _ s2 J J⟩
theorem j0{g:ae->ae->df}(h1:NT C E RI (L i) σ H t1)(h2:NT C E RI (L j) σ H t2):NT C E RB (L<|g i j) σ H<|bY (gu λi j=>.bl<|g i j) t1 t2:=λU Q s k=>
 (h1.at_ s).go λv H2 s2 q=>(h2.at_<|s.trans s2).go λu H3 s3 q3=>⟨i,j,q,q3,k.ok H3 _ _ (s2.trans s3) J J⟩
theorem HS{g:ae->ae->ae}(h1:NT C E RI (L i) σ H t1)(h2:NT C E RI (L j) σ H t2):NT C E RI (L<|g i j) σ H<|bY (gu λi j=>.int<|g i j) t1 t2:=λU Q s k=>
 (h1.at_ s).go λv H2 s2 q=>(h2.at_<|s.trans s2).go λu H3 s3 q3=>⟨i,j,q,q3,k.ok H3 _ _ (s2.trans s3) J J⟩
theorem fK:NT C E RI (L i) σ H (tC<|.int i):=iP il J
def NB(r:df)(σ:L2.St)(H:Hp)(tt:TT):Prop:=∀U Q,az H U->(∀H2,az U H2->Q r H2)->tt σ U Q
theorem qT(h:NT C E RB (L a) σ H ta):NB a σ H<|tB ta:=λU Q s k=>(h.at_ s).go λv H2 s2 q=>⟨a,q,k H2 s2⟩
theorem sZ(h:NT C E RB (L a) σ H<|bY r t1 t2):NB a σ H (Jx<|bY r t1 t2):=λU Q s k=>(h.at_ s).go λv H2 s2 q=>⟨a,q,k H2 s2⟩
theorem qS(h1:NB a σ H x)(h2:a=aM->NB b σ H y):NB (a||b) σ H<|OR x y:=λU Q s k=>h1 U _ s λH2 s2=>by
 cases a with
 |false=>exact pX (h2 J H2 Q (s.trans s2) λH3 s3=>k H3<|s2.trans s3)
 |true=>exact jJ<|k H2 s2
theorem xm(h1:NB a σ H x):NB (!a) σ H<|WS x:=λU Q s k=>h1 U _ s λH2 s2=>k H2 s2
theorem iO(h:NB a σ H x)(JM:a=ao-> ∀U,az H U->u1 D σ U)(no:a=aM-> ∀U,az H U->u2 D σ U):z8 x u1 u2 D σ H:=h H _ sr λH2 s2=>by
 cases a with
 |true=>exact jJ<|JM J H2 s2
 |false=>exact pX<|no J H2 s2
theorem QB:∀{vs:af V}{bs:af df},cf (RB H) vs bs->vs=bs.map V.bl
 |[],[],_=>rfl
 |_::_,_::_,h=>by rw[kK,<-QB h.2,show _=_ from h.1]
theorem Ub(h:NT C E (RL K RB) (L bs) σ H ta):NT C E RB (L<|bs.any id) σ H (xX (Nb K)<|aU ta b8):=λU Q s k=>(h.at_ s).go λv H2 s2 dm=>by
 obtain⟨p,vs,e,hp,ha⟩:=dm;subst e;rw[QB ha] at hp;exact⟨p,bs,J,hp,k.ok H2 _ _ s2 J J⟩
theorem Er{R:bE α}{xs:af α}(h:NT C E (RL K R) (L xs) σ H ta):NT C E RI (L xs.length) σ H (xX (λxs H Q=>∃p ys,xs=[.ref p]/\(SqL K H p ys\/cH K H p ys)/\Q (.int ys.length) H)<|aU ta b8):=λU Q s k=>(h.at_ s).go λv H2 s2 dW=>by
 obtain⟨p,vs,e,hp,ha⟩:=dW;subst e;exact⟨p,vs,J,.inl hp,k.ok H2 _ _ s2 J (by rw[ha.bH];rfl)⟩
end
section
variable{P:cO}{w:World}{K:aq}{mg:ax->au aH}{base:b9}{M CK CB:ak}
abbrev N7(K:aq)(M:ak)(k:aB):Sp:=cU M (rX (aE (RL K<|RC K k) cg) λx=>bV k/\x.1.length<=4096) RB λx=>L (x.1.any λv=>jT k v 0)
theorem Nu:bF ["numbers","x"] ["numbers"] (ba<|aO 93):=fs
theorem any_map{α:Type}(f:α->df)(l:af α):(l.map f).any id=l.any f:=by rw[XZ];rfl
theorem nt_zero(hk:bV k)(h:∀H,cH K H a [.int 0,.int 0]):NT M E (RN K k) (L 0) σ H (tC<|.ref a):=iP eP ⟨_,⟨a,J,h H⟩,Bw.Ve hk⟩
theorem ok_anyBelow(F:bh K "any_below_zero" "any_below_zero" (aO 93) f fd)(TC:jB mg)(T:jg K mg M CK)(G1:Gf K mg "is_below" q_ f1 bZ ["x","y"])(k:aB):aD P w K mg base (aQ P w M) 10 f fd ["numbers"]<|N7 K M k:=by
 have O1:aD P w K mg base (aQ P w M) 5 f1 bZ _<|oV K M k:=(xB G1.F k).gz.aV dc;obtain⟨za,zm,zz⟩:=T.pz;refine F.oc Nu λH Q E hr h=>?_;sleep 3;obtain⟨⟨l,_⟩,⟨ar16,hk,hl⟩,kk⟩:=h;sleep 4;refine ar16.c1 λw1 h1=>?_;refine⟨_,aR<|bp (jL (Rc J) J TC.any boot_any<|bz (oM (own:=[("x",1)]) J J J jZ J Nu.nd (jm<|O 0) bk (λ_ _ _ _ _=>eC 1 Nu.nd) (λ_ _ _ _ _=>jo) λ_ _ _ _ _=>cM O1 (hr.aV dc) J G1.m G1.F.kp G1.b .nil j1 (bK (O 1)<|dH J zm (v:=.ref za) J))),?_⟩;have nl:NT M E _ _ [L w1,ah] H _:=(xA (i:=1) (vs:=[1]) (λ_ _ _ _ _ _ _ h=>h) Ts aI (aj (i:=0) J (cE aI) h1) (dN hl dc) (λ_=>J) λH2 v x s2 _ r=>tj (aj (i:=1) J eP<|dS hk r)<|nt_zero hk zz).eq<|Bw.l9 _;exact kk.by ((Ub nl).eq<|by rw[any_map])
def Gi(mg:ax->au aH)(x:ax)(i:ae):Prop:=∃t,mg x=L (.int i t)
abbrev Wg(M:ak):Sp:=cU M (aE RI cg) RB λx=>L<|decide (0<=x.1)&&yB x.1.toNat
theorem scIP:bF ["what"] ["what"] (ba<|aO 95):=fs
theorem free_eq(i:ae):(decide (0<=i)&&yB i.toNat)=((decide (4<=i)&&decide (i<=6))||(decide (11<=i)&&decide (i<20))):=by
 unfold yB;rw[Fx];simp[eX,Fy,kl];omega
theorem ok_isPut(F:bh K "is_number_to_put" "is_number_to_put" (aO 95) f fd)(hb:Gi mg "BODY_NUMBERS" 20):aD P w K mg base (aQ P w M) 10 f fd ["what"]<|Wg M:=by
 obtain⟨tb,mb⟩:=hb;refine F.p1 scIP λH Q E i w1 hr h1 kk=>?_;have v0:NT M E RI _ [L w1] H<|aw 0:=aj J il h1;refine⟨_,aR (bp (M0 (xG (kE xE (O 0) a_<|cW _)<|tD (kE MX (O 0) a_<|cW _)) (tD (xG (kE xE (O 0) a_<|cW _)<|tD (kE lU (O 0) (dH J mb (v:=.int 20) ⟨tb,J⟩)<|cW _))))),?_⟩;exact kk.by ((nt_or (Bx (j0 v0 fK) λ_=>j0 v0 fK) λ_=>Bx (j0 v0 fK) λ_=>j0 v0 fK).eq<|gM L (free_eq i).symm)
abbrev Ws(K:aq)(M CK:ak)(k:aB):Sp:=cU M (aE (RK CK k)<|aE (rV K k) cg) RB λx=>L<|og k x.2.1
theorem VI:bF ["kind","t","square"] ["kind","t"] (ba<|aO 94):=fs
theorem ok_usable{f f1:ak}{fd bZ:c7}(F:bh K "is_usable_turn" "is_usable_turn" (aO 94) f fd)(T:jg K mg M CK)(XT:KC K mg)(h4:∃a,mg "FOUR"=L (.ref a)/\ ∀H,cH K H a [.int 1,.int 2])(G1:Gf K mg "is_below" q_ f1 bZ ["x","y"])(A1:cX P w K mg base M 10 "turn_square" ["kind","t"] λk=>Jl K M CK k)(k:aB):aD P w K mg base (aQ P w M) 12 f fd ["kind","t"]<|Ws K M CK k:=by
 have O1:aD P w K mg base (aQ P w M) 5 f1 bZ ["x","y"]<|oV K M k:=(xB G1.F k).gz.aV dc;obtain⟨qa,qm,qq⟩:=XT.qu;obtain⟨ga,gm,gq⟩:=h4;refine F.p2 VI λH Q E _ q w1 w2 hr h1 h2 kk=>?_;have hk:=h1.1
 refine⟨_,aG (EH J J J T.sD J T.sX (λHc pl=>aR (bC 2 VI.nd<|A1.c k hr EA (bK (O 0)<|O 1))) λpl e=>aR<|bp pe_bl)
  (aR (bp (xG (US<|cM O1 (hr.aV dc) J G1.m G1.F.kp G1.b .nil aA (bK (O 2)<|dH J qm (v:=.ref qa) J))<|tD (US<|cM O1 (hr.aV dc) J G1.m G1.F.kp G1.b .nil aA (bK (dH J gm (v:=.ref ga) J)<|O 2))))),?_⟩
 have kk:bQ M RB H (L<|og k q) Q E:=kk;refine⟨λH'=>az H H'/\yC k q=ah,?_,λaS H' gw _=>by obtain⟨s1,e1⟩:=gw;exact kk.ok H' _ aM s1 (by unfold og;rw[e1]) J⟩;have u_:NT M (λ_ _ H'=>az H H'/\yC k q=ah) (RC K k) (yC k q) [L w1,L w2,ah] H<|d_ (Jl K M CK k) [] _ (aU (aw 0)<|aU (aw 1) b8):=cT (t:=L ((),q,())) (f:=λx=>yC k x.2.1) (aF aN (aj J aN h1)<|aF lS (aj J lS h2) bR);refine u_ H _ sr ⟨λU u1 n s1 en q1=>?_,λH' s' e'=>⟨s',e'⟩⟩;have vn:NT M E (RN K k) (L n) [L w1,L w2,L u1] U<|aw 2:=aj J eP<|dS hk q1;have vq:NT M E (RN K k) (L<|oP k (-2)) [L w1,L w2,L u1] U (tC<|.ref qa):=iP eP ⟨_,⟨qa,J,qq U⟩,Bw.Vd hk⟩;have vg:NT M E (RN K k) (L<|oP k 2) [L w1,L w2,L u1] U (tC<|.ref ga):=iP eP ⟨_,⟨ga,J,gq U⟩,Bw.rep_four hk⟩;exact kk.gX s1 ((Bx (Us<|tj vn vq) λ_=>Us<|tj vg vn).eq (by unfold og;rw[en]))
end
end BW
namespace BW
open PySem PySem.Spec PyProof.Rows L2
open Bw (bV cV bg cq bf fI)
structure Cs where
 F:ak
 K:ak
 B:ak
 S:ak
 C:ak
 R:ak
abbrev oz:af ax:=["kind","bodies","springs","walls"]
def i9(v0 v1 v2 v3:V):af<|ax×V:=aY "walls" v3<|aY "springs" v2 (aY "bodies" v1<|aY "kind" v0 [])
def HE(m:ax):df:=decide (¬m="walls")&&decide (¬m="springs")&&decide (¬m="bodies")&&decide (¬m="kind")
theorem E8(h:HE m=ao):(i9 v0 v1 v2 v3).lookup m=ah:=by
 unfold HE at h;rw[eX,eX,eX] at h;unfold i9;rw[du,ay<|dG h.1.1.1,du,ay<|dG h.1.1.2,du,ay<|dG h.1.2,du,ay<|dG h.2];rfl
section
variable(K:aq)(d:Cs)(k:aB)
inductive eN(H:Hp)(a pb ps:ak)(W:rY):Prop
 |mk:∀dx vk vw vb vs,H a=L (.ins d.C dx<|i9 vk (.ref pb) (.ref ps) vw)->RK d.K k H vk ()->C3 K k H vw W.walls->H pb=L (.lst vb)->cf (cp K d.B k H) vb W.bodies->H ps=L (.lst vs)->cf (i_ K d.S k H) vs W.springs->(pb≠ps/\ox W.bodies.length W.springs/\W.bodies.length<=4096/\W.springs.length<=8192)->eN H a pb ps W
inductive eS(H:Hp)(v:V)(W:rY):Prop
 |mk:∀a pb ps,v= .ref a->eN K d k H a pb ps W->eS H v W
end
section
variable{K:aq}{d:Cs}{k:aB}{H H':Hp}{a pb ps:ak}{W:rY}
theorem KS(h:cp K d.B k H v b)(t:cw H H')(i:∀b dx fs,H b=L (.ins d.B dx fs)->H' b=L (.ins d.B dx fs)):cp K d.B k H' v b:=by
 obtain⟨a,dx,v0,v1,v2,v3,v4,v5,v6,e,h,h0,h1,h2,h3,h4,h5,h6⟩:=h;exact⟨a,dx,v0,v1,v2,v3,v4,v5,v6,e,i _ _ _ h,dw.up t h0,cP.up t h1,cP.up t h2,qQ.up t h3,cP.up t h4,cP.up t h5,cP.up t h6⟩
theorem OG(h:i_ K d.S k H v s)(t:cw H H')(i:∀b dx fs,H b=L (.ins d.S dx fs)->H' b=L (.ins d.S dx fs)):i_ K d.S k H' v s:=by
 obtain⟨a,dx,v2,v3,v4,v5,v6,e,h,h2,h3,h4,h5,h6⟩:=h;exact⟨a,dx,v2,v3,v4,v5,v6,e,i _ _ _ h,cP.up t h2,cP.up t h3,dw.up t h4,dw.up t h5,dw.up t h6⟩
structure J0(d:Cs)(H H':Hp):Prop where
 t:cw H H'
 k:∀b dx fs,H b=L (.ins d.K dx fs)->H' b=L (.ins d.K dx fs)
 b:∀b dx fs,H b=L (.ins d.B dx fs)->H' b=L (.ins d.B dx fs)
 s:∀b dx fs,H b=L (.ins d.S dx fs)->H' b=L (.ins d.S dx fs)
theorem _root_.L2.az.ins(s:az H H'):J0 d H H':=⟨s.i.1,λ_ _ _=>s _ _,λ_ _ _=>s _ _,λ_ _ _=>s _ _⟩
theorem eN.Dr(h:eN K d k H a pb ps W)(i:J0 d H H')(ha:∀o,H a=L o->H' a=L o)(hb:∀o,H pb=L o->H' pb=L o)(hs:∀o,H ps=L o->H' ps=L o):eN K d k H' a pb ps W:=by
 obtain⟨dx,vk,vw,vb,vs,h1,⟨hk,b,dk,e,h2⟩,h3,h4,h5,h6,h7,h8⟩:=h;exact⟨dx,vk,vw,vb,vs,ha _ h1,⟨hk,b,dk,e,i.k _ _ _ h2⟩,qR _ _ _ _ i.t h3,hb _ h4,h5.imp λv x h=>KS h i.t i.b,hs _ h6,h7.imp λv x h=>OG h i.t i.s,h8⟩
theorem eN.same(h:eN K d k H a pb ps W)(s:az H H'):eN K d k H' a pb ps W:=h.Dr s.ins (λ_=>s _ _) (λ_=>s _ _) λ_=>s _ _
theorem fA:cY<|eS K d k:=λ_ _ _ _ s dm=>by obtain⟨a,pb,ps,e,h⟩:=dm;exact⟨a,pb,ps,e,h.same s⟩
theorem eN.zk(h:eN K d k H a pb ps W):bV k:=by obtain⟨dx,vk,vw,vb,vs,h1,h2,_⟩:=h;exact h2.1
theorem eN.ok(h:eN K d k H a pb ps W):ox W.bodies.length W.springs/\W.bodies.length<=4096/\W.springs.length<=8192:=by obtain⟨dx,vk,vw,vb,vs,_,_,_,_,_,_,_,_,h⟩:=h;exact h
section
variable{mg:ax->au aH}{E:XK}{σ:L2.St}{te:TE}{M:ak}
theorem Iy(n:HE m=ao)(h:eS K d k H v W):∃a dx fs,v= .ref a/\H a=L (.ins d.C dx fs)/\fs.lookup m=ah:=by
 obtain⟨a,pb,ps,e,dx,vk,vw,vb,vs,h1,_⟩:=h;exact⟨a,dx,_,e,h1,E8 n⟩
theorem uY(T:Tx K mg d.C "Scene" oz)(h:NT M E (eS K d k) (L W) σ H te):NT M E (RK d.K k) (L ()) σ H<|c9 K te "kind":=gB h λ_ _ dW=>by obtain⟨a,pb,ps,e,dx,vk,vw,vb,vs,h1,h2,h3,h4,h5,h6,h7,h8⟩:=dW;exact⟨a,d.C,dx,_,vk,e,h1,T.cl,T.na _ dk,by unfold i9;sleep 1,h2⟩
theorem BA(T:Tx K mg d.C "Scene" oz)(h:NT M E (eS K d k) (L W) σ H te):NT M E (wA K d.B k) (L W.bodies) σ H<|c9 K te "bodies":=gB h λ_ _⟨a,pb,ps,e,dx,vk,vw,vb,vs,h1,h2,h3,h4,h5,h6,h7,h8⟩=>⟨a,d.C,dx,_,.ref pb,e,h1,T.cl,T.na _ dk,by unfold i9;sleep 1,⟨pb,vb,J,SqL.of h4,h5⟩,h8.2.2.1⟩
theorem MI(T:Tx K mg d.C "Scene" oz)(h:NT M E (eS K d k) (L W) σ H te):NT M E (RL K<|i_ K d.S k) (L W.springs) σ H<|c9 K te "springs":=gB h λ_ _⟨a,pb,ps,e,dx,vk,vw,vb,vs,h1,h2,h3,h4,h5,h6,h7,h8⟩=>⟨a,d.C,dx,_,.ref ps,e,h1,T.cl,T.na _ dk,by unfold i9;sleep 1,ps,vs,J,SqL.of h6,h7⟩
end
end
def uw(k:aB)(l:af ag):au<|af ag:=if l.all (jH k)=ao then L l else ah
section
variable{K:aq}{k:aB}
def yr(K:aq)(k:aB):bE<|af ag:=λH v l=>RL K (RX k) H v l/\l.length<=4096
theorem zr:cY<|RX k:=λ_ _ _ _ _ h=>h
theorem xl:cY<|yr K k:=λ_ _ _ _ s h=>⟨cE zr _ _ _ _ s h.1,h.2⟩
def C0(K:aq)(k:aB)(H0:Hp):bE (au<|af ag):=λH v o=>match o with
 |none=>v= .cu
 |some l=>jy H0 (RC K k) H v l
theorem zQ{R:bE α}{xs:af α}(h:jy H0 R H v xs):RL K R H v xs:=let⟨p,vs,e,h,a,_⟩:=h;⟨p,vs,e,SqL.of h,a⟩
theorem To:mj<|RO K k:=λ_ _ _ x s h=>match x,h with
 |none,h=>h
 |some _,h=>dw.up s h
theorem QE:∀{vs:af V}{l:af ag},cf (RO K k H) vs (l.map<|oE k)->(∀y∈vs,y= .cu\/ ∃a ys,y= .ref a/\cH K H a ys)/\vs.any Hk= !l.all (jH k)/\(l.all (jH k)=ao->cf (RC K k H) vs l)
 |[],[],_=>⟨(λ_ h=>nomatch h),J,λ_=>ck⟩
 |[],_::_,h=>h.elim
 |_::_,[],h=>h.elim
 |v::vs,x::l,h=>by
  obtain⟨i1,i2,i3⟩:=QE h.2;have h1:=h.1;rw[yh,List.all_cons,i2];unfold oE at h1;by_cases e:jH k x=ao
  ·rw[aK e] at h1
   obtain⟨⟨a,rfl,ha⟩,f⟩:=id h1;refine⟨λy hy=>?_,by rw[e];rfl,λz=>⟨h1,i3 (by rw[e] at z;exact z)⟩⟩;rcases List.mem_cons.mp hy with rfl|hy
   ·exact .inr ⟨a,_,J,ha⟩
   ·exact i1 y hy
  ·rw[ay e] at h1
   subst h1;rw[Bool.not_eq_true] at e;refine⟨λy hy=>?_,by rw[e];rfl,λz=>by rw[e] at z;cases z⟩;rcases List.mem_cons.mp hy with rfl|hy
   ·exact .inl J
   ·exact i1 y hy
end
abbrev sS(j:ag):dq:=sQ (aO 96) j
section
variable{P:cO}{w:World}{K:aq}{mg:ax->au aH}{base:b9}{d:Cs}
theorem Ee:kW "from_bits":=p_ _ dk
theorem MK(h0:NT M E (RK CK k) (L ()) σ H te)(h1:NT M E (RX k) (L x) σ H t1):NT M E (RO K k) (L<|oE k x) σ H (eE CK "from_bits" (Od K M CK k) [] E te<|aU t1 b8):=oJ (f:=λx=>L<|oE k x.2.1) h0 aN (λ_ _=>vD Ee.1 Ee.2.1 Ee.2.2.1 Ee.2.2.2.1 Ee.2.2.2.2)<|aF zr h1 bR
abbrev Ov(K:aq)(d:Cs)(k:aB):Sp:=B1 d.F (aE (eS K d k)<|aE (yr K k) cg) (λH _ _=>C0 K k H) λx=>L<|uw k x.2.1
theorem NF:bF ["self","row","numbers","bits"] ["self","row"] (ba<|sS 1):=fs
theorem ok_readNumbers(F:bh K "read_numbers" "Scene.read_numbers" (sS 1) f fd)(TK:jg K mg d.F d.K)(T:Tx K mg d.C "Scene" oz)(G1:Gm K d.K "from_bits" "Kind.from_bits" (sK 1) f1 bZ ["self","bits"])(k:aB):aD P w K mg base (aQ P w d.F) 10 f fd ["self","row"]<|Ov K d k:=by
 have O1:aD P w K mg base (aQ P w d.F) 1 f1 bZ _ _:=(UD G1.F TK k).gz;refine F.oc NF λH Q E hr h=>?_;obtain⟨⟨W,l,_⟩,⟨w1,r1,rfl,h1,w2,r2,rfl,⟨h2,hl⟩,rfl⟩,kk⟩:=h
 refine⟨_,aG (BJ (i:=2) (own:=[("bits",3)]) (te:=eE d.K "from_bits" _ [] E (c9 K _ "kind") _) J J J jZ J NF.nd J J (B7 J J J J) (jm<|O 1) bk (λ_ _ _ _ _=>eC 3 NF.nd) (λ_ _ _ _ _=>jo) λ_ _ _ _ _=>bW (bu<|O 0) TK.cl G1.aJ O1 (hr.aV dc) G1.b .nil j1 (bz<|O 3))
  (aR (bp<|mJ (dD (op_in_none hr.units) nY (O 2)<|by with_unfolding_all rfl) nY<|O 2)),?_⟩
 have ni:NT d.F E _ _ [L w1,L w2,ah,ah] H _:=(Ul (i:=3) (vs:=[3]) (R:=RO K k) To.i.mO To.i.m zr (aj (i:=1) J (cE zr) h2) (dN hl dc) (λ_=>J) λU v y s _ r=>MK (uY T (aj (i:=0) J fA<|fA.up s h1))<|aj (i:=3) J zr r).eq<|Bw.l9 _;refine j3 ni λu U s1⟨p,vs,e,hp,ha,hn⟩=>?_;subst e;obtain⟨a1,a2,a3⟩:=QE ha;refine⟨_,J,p,vs,J,J,SqL.of hp,a1,_,J,d6 (λc=>?_) λc=>?_⟩
 ·rw[a2] at c
  exact kk.ok U _ _ s1 J (by unfold uw;rw[ay (by intro z;rw[z] at c;cases c)];rfl)
 ·rw[a2] at c
  have c:l.all (jH k)=ao:=by simpa using c
  exact⟨_,J,kk.ok U _ _ s1 J (by unfold uw;rw[aK c];exact⟨p,vs,J,hp,a3 c,hn⟩)⟩
def F3(K:aq)(k:aB):bE<|af ag:=λH v l=>RL K (RC K k) H v l/\l.length<=30000
theorem Mp:cY<|F3 K k:=λ_ _ _ _ s h=>⟨cE aI _ _ _ _ s h.1,h.2⟩
abbrev N8(K:aq)(d:Cs)(k:aB):Sp:=cU d.F (aE (eS K d k)<|aE (F3 K k) cg) (fG RI) λx=>L<|Rb49Neutral.ints x.2.1
theorem Nw:bF ["self","numbers","x"] ["self","numbers"] (ba<|sS 2):=fs
theorem ok_allBits(F:bh K "all_bits" "Scene.all_bits" (sS 2) f fd)(TK:jg K mg d.F d.K)(T:Tx K mg d.C "Scene" oz)(G1:Gm K d.K "to_bits" "Kind.to_bits" (sK 2) f1 bZ ["self","x"])(k:aB):aD P w K mg base (aQ P w d.F) 10 f fd ["self","numbers"]<|N8 K d k:=by
 have O1:aD P w K mg base (aQ P w d.F) 1 f1 bZ _ _:=(UK G1.F TK k).gz;refine F.p2 Nw λH Q E W l w1 w2 hr h1 gY kk=>?_;obtain⟨h2,hl⟩:=gY;refine⟨_,aR<|bp (oM (own:=[("x",2)]) (te:=eE d.K "to_bits" _ [] E (c9 K _ "kind") _) J J J jZ J Nw.nd (jm<|O 1) bk (λ_ _ _ _ _=>eC 2 Nw.nd) (λ_ _ _ _ _=>jo) λ_ _ _ _ _=>bW (bu<|O 0) TK.cl G1.aJ O1 (hr.aV dc) G1.b .nil j1 (bz<|O 2)),?_⟩;exact kk.by ((HU (λ_ _ _ _ _ _ _ h=>h) il aI (aj J (cE aI) h2) (dN hl dc) (λ_=>J) λU v y s _ r=>MR (uY T (aj J fA<|fA.up s h1))<|aj J aI r).eq<|Bw.l9 _)
abbrev Oe(K:aq)(d:Cs)(k:aB):Sp:=cU d.F (aE (eS K d k)<|aE RI cg) RB λx=>L<|decide (0<=x.2.1)&&decide (x.2.1<(x.1.bodies.length))
abbrev Of(K:aq)(d:Cs)(k:aB):Sp:=cU d.F (aE (eS K d k) (aE RI<|aE RI cg)) RB λx=>L<|fI x.1 x.2.1 x.2.2.1
theorem scHB:bF ["self","i"] ["self","i"] (ba<|sS 3):=fs
theorem scHBs:bF ["self","first","n"] ["self","first","n"] (ba<|sS 4):=fs
theorem Ep(T:Tx K mg d.C "Scene" oz)(h:NT M E (eS K d k) (L W) σ H te):NT M E RI (L W.bodies.length) σ H (xX (λxs H Q=>∃p ys,xs=[.ref p]/\(SqL K H p ys\/cH K H p ys)/\Q (.int ys.length) H)<|aU (c9 K te "bodies") b8):=Er ((BA T h).cZ λ_ _ _ h=>h.1)
theorem ok_hasBody(F:bh K "has_body" "Scene.has_body" (sS 3) f fd)(TC:jB mg)(T:Tx K mg d.C "Scene" oz)(k:aB):aD P w K mg base (aQ P w d.F) 10 f fd ["self","i"]<|Oe K d k:=by
 refine F.p2 scHB λH Q E W i w1 w2 hr h1 h2 kk=>?_;refine⟨_,aR<|bp (xG (kE MX a_ (O 1)<|cW _) (tD<|kE lU (O 1) (jL oB J TC.bH pO<|bz (bu<|O 0))<|cW _)),?_⟩;have v0:NT d.F E _ _ [L w1,L w2] H<|aw 0:=aj J fA h1;have v1:NT d.F E RI _ [L w1,L w2] H<|aw 1:=aj J il h2;exact kk.by (Bx (j0 (g:=λi j=>decide (i<=j)) fK v1) λ_=>j0 (g:=λi j=>decide (i<j)) v1<|Ep T v0)
theorem ok_hasBodies(F:bh K "has_bodies" "Scene.has_bodies" (sS 4) f fd)(TC:jB mg)(T:Tx K mg d.C "Scene" oz)(k:aB):aD P w K mg base (aQ P w d.F) 10 f fd ["self","first","n"]<|Of K d k:=by
 refine F.p3 scHBs λH Q E W i n w1 w2 w3 hr h1 h2 h3 kk=>?_;refine⟨_,aR (bp (xG (kE xE (O 1) a_<|cW _) (xG (kE xE (O 2) a_<|cW _)<|tD (kE MX (bO fC (O 1)<|O 2) (jL oB J TC.bH pO<|bz (bu<|O 0))<|cW _)))),?_⟩;have v0:NT d.F E _ _ [L w1,L w2,L w3] H<|aw 0:=aj J fA h1;have v1:NT d.F E RI _ [L w1,L w2,L w3] H<|aw 1:=aj J il h2;have v2:NT d.F E RI _ [L w1,L w2,L w3] H<|aw 2:=aj J il h3;exact kk.by (Bx (j0 (g:=λi j=>decide (j<=i)) v1 fK) λ_=>Bx (j0 (g:=λi j=>decide (j<=i)) v2 fK) λ_=>j0 (g:=λi j=>decide (i<=j)) (HS v1 v2)<|Ep T v0)
end
end BW
namespace BW
open PySem PySem.Spec PyProof.Rows L2
open Bw (bV cV bg cq bf fI nN uC og)
structure Kept(H H':Hp)(a pb ps gn jM:ak):Prop where
 same:∀c o,H c=L o->c≠a->c≠pb->c≠ps->H' c=L o
 b:gn=pb\/H gn=ah
 s:jM=ps\/H jM=ah
def yp(_:Hp):bE Qm:=λ_ v x=>v= .int x.value/\x.out=[]
inductive uj(H0:Hp)(H:Hp)(v:V)(x:Qm):Prop
 |mk:∀p,v= .ref p->H0 p=ah->H p=L (.lst<|(x.value::Rb49Neutral.ints x.out).map V.int)->uj H0 H v x
inductive oW(K:aq)(d:Cs)(k:aB)(A:gk τ)(cl:τ->F4)(RA:Hp->bE Qm)(vs:af V)(H:Hp)(Q:VK)(lu:XK):Prop
 |mk:∀a pb ps W t r,vs= .ref a::r->eN K d k H a pb ps W->A H r t->(∀H' v gn jM W',(cI k (L W)<|cl t).1=L W'->Kept H H' a pb ps gn jM->eN K d k H' a gn jM W'->RA H H' v (cI k (L W)<|cl t).2->Q v H')->oW K d k A cl RA vs H Q lu
section
variable{K:aq}{d:Cs}{k:aB}{H H':Hp}{a pb ps:ak}{W:rY}{c:F4}{Q:VK}{E:XK}{n:ae}{M:ak}
theorem Kept.pure(s:az H H'):Kept H H' a pb ps pb ps:=⟨λ_ _ h _ _ _=>s _ _ h,.inl J,.inl J⟩
theorem n9(sc:eN K d k H a pb ps W)(kk:∀H' v gn jM W',(cI k (L W) c).1=L W'->Kept H H' a pb ps gn jM->eN K d k H' a gn jM W'->yp H H' v (cI k (L W) c).2->Q v H')
 (e:cI k (L W) c=(L W,⟨n,[]⟩)) (s:az H H'):Q (.int n) H':=kk H' _ pb ps W (by rw[e]) (Kept.pure s) (sc.same s) (by rw[e];exact⟨J,J⟩)
theorem QC:∀{vs:af V}{l:af ae},cf (RI H) vs l->vs=l.map V.int
 |[],[],_=>rfl
 |_::_,_::_,h=>by rw[kK,<-QC h.2,show _=_ from h.1]
theorem oQ{l:af ag}(sc:eN K d k H a pb ps W)(kk:∀H' v gn jM W',(cI k (L W) c).1=L W'->Kept H H' a pb ps gn jM->eN K d k H' a gn jM W'->uj H H' v (cI k (L W) c).2->Q v H')
 (e:cI k (L W) c=(L W,⟨n,l⟩)):bQ M (jy H RI) H (L<|n::Rb49Neutral.ints l) Q E:=⟨λH' v y s e2 dm=>by
 obtain⟨p,vs,e3,hp,ha,hn⟩:=dm
 cases e2
 rw[QC ha] at hp
 exact kk H' v pb ps W (by rw[e]) (Kept.pure s) (sc.same s) (by rw[e];exact⟨p,e3,hn,hp⟩),λ_ _ e=>nomatch e⟩
end
section
variable{K:aq}{C:ak}{E:XK}{σ:L2.St}{H:Hp}{te ta tb:TE}
theorem H_{R:bE α}{xs:af α}(m:cY R)(h:NT C E (RL K R) (L xs) σ H te)(hl:NT C E fH (L i) σ H ta)(hh:NT C E fH (L j) σ H tb)(hj:j<=xs.length):NT C E (jy H R) (L ((xs.drop i).take<|j-i)) σ H (B8 (zN K) te (rD ta)<|rD tb):=λU Q s k=>by
 refine(h.at_ s).go λv H2 s2 q=>(hl.at_<|s.trans s2).go λu1 H3 s3 q3=>⟨_,q3,(hh.at_<|(s.trans s2).trans s3).go λu2 H4 s4 q4=>⟨_,q4,?_⟩⟩;obtain⟨p,vs,rfl,hp,ha⟩:=cE m _ _ _ _ (s3.trans s4) q;have dJ:=ha.bH;refine⟨p,vs,J,hp,λl hn=>k.ok _ _ _ (((s2.trans s3).trans s4).trans<|az.new hn) J ⟨l,_,J,bw,?_,(((s.trans s2).trans s3).trans s4).free hn⟩⟩;rw[AR<|by lia];exact((ha.drop i).take _).imp λv x=>m _ _ _ _<|az.new hn
theorem zC:NT C E fH (L n) σ H (tC<|.int n):=iP iq J
theorem zu(h:NT C E (λ_ v _=>decide (v= .cu)=b) (L ()) σ H te):NB b σ H (Jx<|bY (λx y H Q=>y= .cu/\Q (.bl<|decide (x= .cu)) H) te<|tC .cu):=λU Q s k=>(h.at_ s).go λv H2 s2 q=>⟨J,_,J,by rw[show decide _=b from q];exact k H2 s2⟩
theorem r4l_of(h:RL K (RC K k) H v [w,x,y,z]):rV K k H v ⟨w,x,y,z⟩:=by
 obtain⟨p,vs,rfl,hp,ha⟩:=h;sleep 3;obtain⟨a,b,c,d,rfl,h1,h2,h3,h4⟩:=L' ha;sleep 4;exact⟨p,a,b,c,d,J,.inl hp,h1,h2,h3,h4⟩
def YR(H0:Hp)(R:bE α):bE α:=λH v x=>R H v x/\ ∃c,v= .ref c/\H0 c=ah
theorem nt_makeF{A:gk τ}{t:au τ}{ta:TA}{f:τ->au α}(h:NA C E A t σ H ta):NT C E (YR H R) (t.bind f) σ H<|OQ D (tL C D A R f) [] E ta:=λU Q s k=>
 h U _ s ⟨λH2 vs y s2 e q=>λx dx n0 n1 n2=>by
  have k2:bQ C _ H2 (f y) Q E:=(k.at_ s2).eq (by rw[e];rfl)
  refine⟨H2,x,dx,y,vs,by rw[pj],bw,(az.new n1).trans (az.new<|by rw[bJ<|dB n2];exact n0),n0,q,λH' z s' e' r'=>⟨J,k2.ok H' _ z s' e' ⟨r',x,J,(s.trans s2).free n0⟩⟩,k2.no⟩,λH2 s2 e=>k.no H2 s2 (by rw[e];rfl)⟩
end
section
variable(P:cO)(w:World)(K:aq)(mg:ax->au aH)(base:b9)(d:Cs)
instance{K:aq}{d:Cs}{A:gk τ}{cl:τ->F4}[q:LR A n]:LS (oW K d k A cl RA)<|n+1:=⟨λdW=>by obtain⟨_,_,_,_,_,_,e,_,h,_⟩:=dW;exact e▸gM (·+1) (q.l h)⟩
inductive kM(l:ag)(x:ax)(ps:af ax)(sp:aB->Sp):Prop
 |mk:∀(f:ak)(fd:c7),pq K d.C x f->Binds K fd ps []->(∀k,aD P w K mg base (aQ P w d.F) l f fd ps<|sp k)->kM l x ps sp
structure SX:Prop where
 TC:jB mg
 TK:jg K mg d.F d.K
 T:Tx K mg d.C "Scene" oz
 TB:iU K mg d.B
 mB:mg "Body"=L (.ref d.B)
 B:∃f fd,Mk K d.B f/\Binds K fd ["self","numbers"] []/\ ∀k,aD P w K mg base (aQ P w d.F) 10 f fd ["self","numbers"] (Fg K d.F d.B k)
 tw:∃f fd,pq K d.B "twenty" f/\Binds K fd ["self"] []/\ ∀k,aD P w K mg base (aQ P w d.F) 10 f fd ["self"] (vN K d.F d.B k)
 mS:mg "Spring"=L (.ref d.S)
 S:∃f fd,Mk K d.S f/\Binds K fd ["self","first","second","numbers"] []/\ ∀k,aD P w K mg base (aQ P w d.F) 12 f fd ["self","first","second","numbers"] (Ox K d.F d.S k)
 rn:kM P w K mg base d 10 "read_numbers" ["self","row"] λk=>Ov K d k
 ab:kM P w K mg base d 10 "all_bits" ["self","numbers"] λk=>N8 K d k
 hb:kM P w K mg base d 10 "has_body" ["self","i"] λk=>Oe K d k
 yZ:kM P w K mg base d 10 "has_bodies" ["self","first","n"] λk=>Of K d k
 fb:oq P w K mg base d.F d.K "from_bits" ["self","bits"] λk=>Od K d.F d.K k
 nb:∀k,oq P w K mg base d.F d.K "nearest_bits" ["self","x"] λj=>Om K d.F d.K k j
 QQ:∃f fd,Gf K mg "is_below" q_ f fd ["x","y"]
 any:cX P w K mg base d.F 10 "any_below_zero" ["numbers"] λk=>N7 K d.F k
 us:cX P w K mg base d.F 12 "is_usable_turn" ["kind","t"] λk=>Ws K d.F d.K k
 Ti:cX P w K mg base d.F 10 "made_one_long" ["kind","t"] λk=>Jc K d.F d.K k (yD k)
 ip:cX P w K mg base d.F 10 "is_number_to_put" ["what"] λ_=>Wg d.F
 ss:cX P w K mg base d.F 38 "several_steps" ["kind","bodies","springs","walls","n","dt"] λk=>Ji K d.F d.K d.B d.S k
 WX:cX P w K mg base d.F 34 "ten_sums" ["kind","bodies","springs"] λk=>Jk K d.F d.K d.B d.S k
 bx:cX P w K mg base d.F 20 "box_of" ["bodies"] λk=>N9 K d.F d.B k
 sl:cX P w K mg base d.F 20 "slow_ones" ["kind","bodies","limit"] λk=>Oy K d.F d.K d.B k
 pp:cX P w K mg base d.F 12 "point_place" ["kind","body","r"] λk=>Jh K d.F d.K d.B k
 wi:cX P w K mg base d.F 14 "with_number" ["body","what","x"] λk=>Wt K d.F d.B k
 cNR:Gi mg "NO_ROOM" (-1)
 cNB:Gi mg "NO_BODY" (-1)
 cOR:Gi mg "OUT_OF_RANGE" (-2)
 cBN:Gi mg "BAD_NUMBER" (-3)
 cSF:Gi mg "SOMETHING_FAILS" (-5)
 cMB:Gi mg "MOST_BODIES" 4096
 cMS:Gi mg "MOST_SPRINGS" 8192
 cMT:Gi mg "MOST_STEPS" 1000000
 Q5:Gi mg "MOST_TOLD" 4096
 cB:Gi mg "BODY_NUMBERS" 20
 TJ:d.K≠d.C
 TH:d.B≠d.C
 TQ:d.S≠d.C
end
section
variable{P:cO}{w:World}{K:aq}{mg:ax->au aH}{base:b9}{d:Cs}{k:aB}
section
variable{E:XK}{σ:L2.St}{H:Hp}{te t1 t2:TE}{W:rY}
theorem Et(h0:NT d.F E (eS K d k) (L W) σ H te)(h1:NT d.F E (yr K k) (L l) σ H t1):NT d.F E (C0 K k H) (L<|uw k l) σ H (eE d.C "read_numbers" (Ov K d k) [] E te<|aU t1 b8):=λU Q s kk=>
 (h0.at_ s).go λv H2 s2 q=>by
   sleep 3;obtain⟨a,dx,fs,e1,e2,e3⟩:=Iy (m:="read_numbers") dk q;sleep 4;refine⟨a,dx,fs,e1,e2,e3,(h1.at_<|s.trans s2).go λu H3 s3 q3=>⟨(W,l,()),⟨v,_,J,fA.up s3 q,u,_,J,q3,J⟩,λH' z y s' e r=>kk.ok H' z y ((s2.trans s3).trans s') e ?_,λ_ _ e=>nomatch e⟩⟩
   cases e
   unfold C0 at r⊢
   split
   ·next e=>rw[e] at r;exact r
   ·next e=>rw[e] at r;obtain⟨p,vs,r1,r2,r3,r4⟩:=r;exact⟨p,vs,r1,r2,r3,((s.trans s2).trans s3).free r4⟩
theorem HK(h0:NT d.F E (eS K d k) (L W) σ H te)(h1:NT d.F E (F3 K k) (L l) σ H t1):NT d.F E (fG RI) (L<|Rb49Neutral.ints l) σ H (eE d.C "all_bits" (N8 K d k) [] E te<|aU t1 b8):=oJ (f:=λx=>L<|Rb49Neutral.ints x.2.1) h0 fA (λ_ _=>Iy dk)<|aF Mp h1 bR
theorem Ui(h0:NT d.F E (eS K d k) (L W) σ H te)(h1:NT d.F E RI (L i) σ H t1):NT d.F E RB (L<|nN W i) σ H (eE d.C "has_body" (Oe K d k) [] E te<|aU t1 b8):=oJ (f:=λx=>L<|decide (0<=x.2.1)&&decide (x.2.1<(x.1.bodies.length))) h0 fA (λ_ _=>Iy dk)<|aF il h1 bR
theorem HR(h0:NT d.F E (eS K d k) (L W) σ H te)(h1:NT d.F E RI (L i) σ H t1)(h2:NT d.F E RI (L n) σ H t2):NT d.F E RB (L<|fI W i n) σ H<|eE d.C "has_bodies" (Of K d k) [] E te (aU t1<|aU t2 b8):=oJ (f:=λx=>L<|fI x.1 x.2.1 x.2.2.1) h0 fA (λ_ _=>Iy dk) (aF il h1<|aF il h2 bR)
theorem Ua(h:NT d.F E (RL K<|RC K k) (L l) σ H te)(hl:l.length<=4096):NT d.F E RB (L (l.any λv=>jT k v 0)) σ H (d_ (N7 K d.F k) [] E<|aU te b8)\/ ¬bV k:=by
 by_cases hk:bV k
 ·exact .inl (cT (f:=λx=>L (x.1.any λv=>jT k v 0))<|nW (aF (cE aI) h bR) λy e=>by cases e;exact⟨hk,hl⟩)
 ·exact .inr hk
end
def F0(K:aq)(k:aB)(n:ag):bE<|af ag:=λH v l=>yr K k H v l/\l.length=n
abbrev Wa(K:aq)(d:Cs)(k:aB):Sp:=oW K d k (aE (F0 K k 20) cg) (λx=>.body x.1) yp
theorem Ny:bF ["self","row","numbers","body"] ["self","row"] (ba<|sS 5):=fs
theorem SS(h:C0 K k H0 H v<|L l):decide (v= .cu)=aM:=by
 obtain⟨p,vs,rfl,_⟩:=h;exact hX (λz=>nomatch z)
theorem eN.Za(h:eN K d k H a pb ps W)(s:az H H')(hb:cp K d.B k H' (.ref c) b)(hl:W.bodies.length<4096)(hv:H pb=L (.lst vb)):eN K d k (aC H' pb (.lst<|vb++[.ref c])) a pb ps {W with bodies:=W.bodies++[b]}:=by
 sleep 3;obtain⟨dx,vk,vw,mV,vs,h1,h2,h3,h4,h5,h6,h7,h8,h9,sG,qL⟩:=h.same s;sleep 4;have e:mV=vb:=by rw[s _ _ hv] at h4;cases h4;rfl
 subst e;have i:fO H'<|aC H' pb (.lst<|mV++[.ref c]):=fO.aC (by rw[h4];trivial);refine⟨dx,vk,vw,mV++_,vs,i.2 _ _ _ _ h1,Ml.up i h2,qR _ _ _ _ i.1 h3,bw,(h5.imp λv x=>uS _ _ _ _ i).snoc<|uS.up i hb,by rw[bJ<|dB h8];exact h6,h7.imp λv x=>eO _ _ _ _ i,h8,λs hs=>?_,?_,qL⟩
 ·have:=h9 s hs
  rw[iT]
  lia
 ·rw[iT]
  exact hl
theorem ok_addBody{f:ak}{fd:c7}(F:bh K "add_body" "Scene.add_body" (sS 5) f fd)(X:SX P w K mg base d)(k:aB):aD P w K mg base (aQ P w d.F) 50 f fd ["self","row"]<|Wa K d k:=by
 obtain⟨f1,bZ,M1,b1,O1⟩:=X.rn;obtain⟨f2,di,m2,k2,b2,O2⟩:=X.any;obtain⟨f4,ig,M4,b4,O4⟩:=X.B;obtain⟨c1,e1⟩:=X.cBN;obtain⟨c2,e2⟩:=X.cMB;obtain⟨c3,e3⟩:=X.cNR;have T:=X.T;refine F.oc Ny λH Q E hr h=>?_;obtain⟨a,pb,ps,W,⟨l,_⟩,r,rfl,hs,ar18,kk⟩:=h;refine ar18.c1 λw2 uM=>?_;obtain⟨h2,uI⟩:=uM
 refine⟨_,aG (bC 2 Ny.nd<|bW (O 0) T.cl M1 (O1 k) (hr.aV dc) b1 .nil aA (bz<|O 1))
  (aG (dU (PW.pt (qr (dD zG (O 2) nY<|cW _) (qr (i7 (cM (O2 k) (hr.aV dc) J m2 k2 b2 .nil aA<|bz (lX l_ (O 2) (gd a_)<|gd a_))) (vA<|vz (i7<|X.us.c k hr aA (bK (bu<|O 0) (lX l_ (O 2) (gd a_)<|gd a_))))))) (aR (bp<|dH J e1 (v:=.int (-3)) ⟨c1,J⟩)) d7)
  (aG (dU (dD xE (jL oB J X.TC.bH pO<|bz (bu<|O 0)) (dH J e2 (v:=.int 4096) ⟨c2,J⟩)<|cW _) (aR (bp<|dH J e3 (v:=.int (-1)) ⟨c3,J⟩)) d7)
  (aG (bC 3 Ny.nd<|oN M4 (O4 k) (hr.aV dc) J X.mB b4 .nil aA (bz<|O 2))
  (aG (dM (O 3) (X.Ti.c k hr aA (bK (bu<|O 0) (bu<|O 3))) J)
  (aG (qp (vp wx CT CV Bt (bu<|O 0) (bz<|O 3)))
  (aR (bp<|bO iy (jL oB J X.TC.bH pO<|bz (bu<|O 0)) a_))))))),?_⟩
 have h1:eS K d k H (.ref a) W:=⟨a,pb,ps,J,hs⟩;have hk:=hs.zk;have uI:l.length=20:=uI;refine j3 (Et (E:=E) (σ:=[L<|.ref a,L w2,ah,ah]) (aj (i:=0) J fA h1)<|aj (i:=1) J xl h2) λu U s1 q1=>?_;by_cases hf:l.all (jH k)=ao
 ·have ef:uw k l=L l:=aK hf
  rw[ef] at q1;have U3:RL K (RC K k) U u l:=zQ q1;sleep 3;obtain⟨a0,a1,a2,a3,a4,a5,a6,a7,a8,a9,jU,pF,pG,pH,pI,pJ,pK,pL,pM,sj⟩:=Bw.L_ uI;sleep 4;have v0:∀{H2:Hp}{x:au V},az H H2->NT d.F E (eS K d k) (L W) [L<|.ref a,L w2,L u,x] H2 (aw 0):=λs=>aj J fA<|fA.up s h1;have v2:NT d.F E (RL K<|RC K k) (L [a0,a1,a2,a3,a4,a5,a6,a7,a8,a9,jU,pF,pG,pH,pI,pJ,pK,pL,pM,sj]) [L<|.ref a,L w2,L u,ah] U<|aw 2:=aj J (cE aI) U3;have t1:NB aM [L<|.ref a,L w2,L u,ah] U _:=zu (C:=d.F) (E:=E) (aj (i:=2) J (λ_ _ _ _ _ h=>h)<|SS q1);have I0:NT d.F E (RL K<|RC K k) (L [a0,a1,a2,a3]) [L<|.ref a,L w2,L u,ah] U _:=(H_ aI (i:=0) (j:=4) v2 zC zC (by show 4<=20;decide)).cZ λ_ _ _=>zQ;have xR:NT d.F E (RL K<|RC K k) (L [a7,a8,a9,jU]) [L<|.ref a,L w2,L u,ah] U _:=(H_ aI (i:=7) (j:=11) v2 zC zC (by show 11<=20;decide)).cZ λ_ _ _=>zQ;have t2:NB ([a0,a1,a2,a3].any λv=>jT k v 0) [L<|.ref a,L w2,L u,ah] U _:=qT<|(Ua I0 (by show 4<=4096;decide)).resolve_right λz=>z hk;have t3:NB (!og k ⟨a7,a8,a9,jU⟩) [L<|.ref a,L w2,L u,ah] U _:=xm (qT (cT (C:=d.F) (E:=E) (R:=RB) (t:=L ((),⟨a7,a8,a9,jU⟩,())) (f:=λx=>L<|og k x.2.1) (aF aN (uY T<|v0 s1)<|aF lS (xR.conv λ_ _=>r4l_of) bR)));have be:=Bw.ZN hf;refine iO (qS t1 λ_=>qS t2 λ_=>t3) (λc H2 s2=>?_) λc H2 s2=>?_
  ·rw[tU] at c
   exact n9 hs kk (Bw.Ww<|by rw[be,aK c])<|s1.trans s2
  ·rw[tU] at c
   rw[ay (by rw[c];decide)] at be;have hu:og k ⟨a7,a8,a9,jU⟩=ao:=by
    rw[Ad] at c;simpa using c.2
   obtain⟨q,hq⟩:=Bw.usable_unit hk hu;rw[hq] at be;have dP:=s1.trans s2;have tl:NB (decide (4096<=(W.bodies.length:ae))) [L<|.ref a,L w2,L u,ah] H2 _:=sZ<|j0 (g:=λi j=>decide (j<=i)) (Ep T<|v0 dP) fK;refine iO tl (λc H3 s3=>?_) λc H3 s3=>?_
   ·have c:4096<=(W.bodies.length:ae):=dG c
    exact n9 hs kk (Bw.st_body_f be<|by lia)<|dP.trans s3
   ·have c:¬4096<=(W.bodies.length:ae):=vd c
    have gL:=dP.trans s3;have Na:CY K k H3 u [a0,a1,a2,a3,a4,a5,a6,a7,a8,a9,jU,pF,pG,pH,pI,pJ,pK,pL,pM,sj]:=⟨.inl<|cE aI _ _ _ _ (s2.trans s3) U3,J⟩;have nm:=nt_makeF (C:=d.F) (E:=E) (R:=cp K d.B k) (D:=d.B) (σ:=[L<|.ref a,L w2,L u,ah]) (t:=L ([a0,a1,a2,a3,a4,a5,a6,a7,a8,a9,jU,pF,pG,pH,pI,pJ,pK,pL,pM,sj],())) (f:=λx=>L<|AQ x.1)<|aF D9 (aj (i:=2) J D9 Na) bR;refine j3 nm λv H4 s4⟨rb,cb,ev,hcb⟩=>?_;subst ev;have hJ:=gL.trans s4;have nu:NT d.F E (R4 K k) (L q) [L<|.ref a,L w2,L u,L<|.ref cb] H4 _:=(cT (t:=L ((),(⟨a7,a8,a9,jU⟩:uk),())) (f:=λx=>yD k x.2.1) (aF aN (uY T<|v0 hJ)<|aF gA (xt X.TB<|aj (i:=3) J cD rb) bR)).eq hq;refine WH X.TB nu J rb (λ_ _ e=>nomatch e) λy H5 ey sx rb5=>?_
    cases ey
    have md:az H H5:=sx.base hJ<|gL.free hcb;obtain⟨dx,vk,vw,vb,vs,g1,g2,g3,g4,g5,g6⟩:=id hs;have e6:H5 pb=L (.lst vb):=md _ _ g4;have hl:vb.length<bI:=by rw[g5.bH];exact wq hs.ok.2.1 dc
    refine⟨_,J,a,d.C,dx,_,.ref pb,J,md _ _ g1,T.cl,T.na _ dk,(by unfold i9;sleep 1),.inl ⟨J,_,SqL.of e6⟩,_,J,pb,vb,_,J,J,e6,hl,?_⟩;have sc:=hs.Za md rb5 om g4;have Rv:=Bw.st_body_s (w:=W) be om;refine(HS (C:=d.F) (E:=E) (σ:=[L<|.ref a,L w2,L u,L<|.ref cb]) (g:=λi j=>i-j) (Ep T<|aj (i:=0) J fA ⟨a,pb,ps,J,sc⟩) fK).go λv H7 s7 q7=>?_;have q7:v=_:=q7;subst q7;refine kk H7 _ pb ps _ (gM FV Rv) ⟨λc o e n1 n2 n3=>s7 _ _ (by rw[bJ n2];exact md _ _ e),.inl J,.inl J⟩ (sc.same s7) ?_;rw[Rv];refine⟨gM V.int ?_,J⟩;rw[iT];show((W.bodies.length+1:ag):ae)-1=((W.bodies.length:ag):ae)
    lia
 ·have ef:uw k l=ah:=ay hf
  rw[ef] at q1;have q1:u= .cu:=q1;subst q1;refine iO (a:=ao) (λH2 Q2 s2 k2=>⟨_,J,J,_,J,jJ<|k2 H2 sr⟩) (λ_ H2 s2=>?_) (λc=>nomatch c);exact n9 hs kk (Bw.Ww (Bw.ZM uI<|by simpa using hf))<|s1.trans s2
end
end BW
namespace BW
open PySem PySem.Spec PyProof.Rows L2
open Bw (bV cV bg cq bf fI nN uC og)
section
variable{P:cO}{w:World}{K:aq}{mg:ax->au aH}{base:b9}{d:Cs}{k:aB}
theorem HZ(q:C0 K k H U u<|uw k l):(¬l.all (jH k)=ao/\u= .cu)\/(l.all (jH k)=ao/\jy H (RC K k) U u l/\decide (u= .cu)=aM):=by
 by_cases hf:l.all (jH k)=ao
 ·have ef:uw k l=L l:=aK hf
  rw[ef] at q;exact .inr ⟨hf,q,SS q⟩
 ·have ef:uw k l=ah:=ay hf
  rw[ef] at q;exact .inl ⟨hf,q⟩
abbrev Wb(K:aq)(d:Cs)(k:aB):Sp:=oW K d k (aE RI (aE RI<|aE (F0 K k 9) cg)) (λx=>.spring x.1 x.2.1 x.2.2.1) yp
theorem Vv:bF ["self","i","j","row","numbers"] ["self","i","j","row"] (ba<|sS 6):=fs
theorem eN.Zb(h:eN K d k H a pb ps W)(s:az H H')(hb:i_ K d.S k H' v b)(ho:b.one<W.bodies.length/\b.other<W.bodies.length/\b.one≠b.other)(hl:W.springs.length<8192)(hv:H ps=L (.lst vs)):eN K d k (aC H' ps (.lst<|vs++[v])) a pb ps {W with springs:=W.springs++[b]}:=by
 sleep 3;obtain⟨dx,vk,vw,vb,vs',h1,h2,h3,h4,h5,h6,h7,h8,h9,sG,qL⟩:=h.same s;sleep 4;have e:vs'=vs:=by rw[s _ _ hv] at h6;cases h6;rfl
 subst e;have i:fO H'<|aC H' ps (.lst<|vs'++[v]):=fO.aC (by rw[h6];trivial);refine⟨dx,vk,vw,vb,vs'++[v],i.2 _ _ _ _ h1,Ml.up i h2,qR _ _ _ _ i.1 h3,by rw[bJ h8];exact h4,h5.imp λv x=>uS _ _ _ _ i,bw,(h7.imp λv x=>eO _ _ _ _ i).snoc<|eO.up i hb,h8,λs hs=>?_,sG,?_⟩
 ·rcases List.mem_append.mp hs with q|q
  ·exact h9 s q
  ·rw[List.mem_singleton] at q
   subst q;exact ho
 ·rw[iT]
  exact hl
theorem ok_addSpring{f:ak}{fd:c7}(F:bh K "add_spring" "Scene.add_spring" (sS 6) f fd)(X:SX P w K mg base d)(k:aB):aD P w K mg base (aQ P w d.F) 50 f fd ["self","i","j","row"]<|Wb K d k:=by
 obtain⟨f1,bZ,M1,b1,O1⟩:=X.rn;obtain⟨f3,fv,M3,b3,O3⟩:=X.hb;obtain⟨f4,ig,M4,b4,O4⟩:=X.S;obtain⟨c1,e1⟩:=X.cBN;obtain⟨c2,e2⟩:=X.cMS;obtain⟨c3,e3⟩:=X.cNR;obtain⟨c4,e4⟩:=X.cOR;have T:=X.T;refine F.oc Vv λH Q E hr h=>?_;obtain⟨a,pb,ps,W,⟨i,j,l,_⟩,r,rfl,hs,ar19,kk⟩:=h;refine ar19.c3 λw2 w3 w4 h2 h3 uN=>?_;obtain⟨h4,h9⟩:=uN
 refine⟨_,aG (dU (PW.pt (qr (vz (i7<|bW (O 0) T.cl M3 (O3 k) (hr.aV dc) b3 .nil aA (bz<|O 1)))<|qr (vz (i7<|bW (O 0) T.cl M3 (O3 k) (hr.aV dc) b3 .nil aA (bz<|O 2)))<|vA (dD iY (O 1) (O 2)<|cW _))) (aR (bp<|dH J e4 (v:=.int (-2)) ⟨c4,J⟩)) d7)
  (aG (bC 4 Vv.nd<|bW (O 0) T.cl M1 (O1 k) (hr.aV dc) b1 .nil aA (bz<|O 3))
  (aG (dU (PW.pt (qr (dD zG (O 4) nY<|cW _) (vA<|i7 (X.any.c k hr aA<|bz (lX l_ (O 4) (gd a_)<|gd a_))))) (aR (bp<|dH J e1 (v:=.int (-3)) ⟨c1,J⟩)) d7)
  (aG (dU (dD xE (jL oB J X.TC.bH pO<|bz (bu<|O 0)) (dH J e2 (v:=.int 8192) ⟨c2,J⟩)<|cW _) (aR (bp<|dH J e3 (v:=.int (-1)) ⟨c3,J⟩)) d7)
  (aG (qp (vp wx CT CV Bt (bu<|O 0) (bz<|oN M4 (O4 k) (hr.aV dc) J X.mS b4 .nil aA (bG (O 1) (O 2)<|O 4))))
  (aR (bp<|bO iy (jL oB J X.TC.bH pO<|bz (bu<|O 0)) a_)))))),?_⟩
 have h1:eS K d k H (.ref a) W:=⟨a,pb,ps,J,hs⟩;have hk:=hs.zk;have h9:l.length=9:=h9;have h2:w2= .int i:=h2;have h3:w3= .int j:=h3;subst h2 h3;have v0:∀{H2:Hp}{x:au V},az H H2->NT d.F E (eS K d k) (L W) [L<|.ref a,L<|.int i,L<|.int j,L w4,x] H2 (aw 0):=λs=>aj J fA<|fA.up s h1;have v1:∀{H2:Hp}{x:au V},NT d.F E RI (L i) [L<|.ref a,L<|.int i,L<|.int j,L w4,x] H2<|aw 1:=aj J il J;have v2:∀{H2:Hp}{x:au V},NT d.F E RI (L j) [L<|.ref a,L<|.int i,L<|.int j,L w4,x] H2<|aw 2:=aj J il J;have t1:NB (!nN W i||(!nN W j||decide (i=j))) [L<|.ref a,L<|.int i,L<|.int j,L w4,ah] H _:=qS (xm (qT<|Ui (v0<|az.refl H) v1)) λ_=>qS (xm (qT<|Ui (v0<|az.refl H) v2)) λ_=>sZ<|j0 (g:=λi j=>decide (i=j)) v1 v2;refine iO t1 (λc U s1=>?_) λc U s1=>?_
 ·exact n9 hs kk (Bw.st_spring_r c) s1
 have si:=Bw.st_spring_i (k:=k) (l:=l) c;have hI:=Bw.Sj c;refine j3 (Et (E:=E) (v0 s1) (aj (i:=3) J xl<|xl.up s1 h4)) λu H2 s2 q2=>?_;have dP:=s1.trans s2;rcases HZ q2 with⟨hf,rfl⟩|⟨hf,q3,hN⟩
 ·refine iO (a:=ao) (λH3 Q3 s3 k3=>⟨_,J,J,_,J,jJ<|k3 H3 sr⟩) (λ_ H3 s3=>?_) (λc=>nomatch c)
  rw[Bw.spring_bad h9<|by simpa using hf] at si;exact n9 hs kk si<|dP.trans s3
 ·have U4:RL K (RC K k) H2 u l:=zQ q3
  sleep 3;obtain⟨a0,a1,a2,a3,a4,a5,a6,a7,a8⟩:=Bw.Ta h9;sleep 4;have v4:NT d.F E (RL K<|RC K k) (L [a0,a1,a2,a3,a4,a5,a6,a7,a8]) [L<|.ref a,L<|.int i,L<|.int j,L w4,L u] H2<|aw 4:=aj J (cE aI) U4;have t2:NB aM [L<|.ref a,L<|.int i,L<|.int j,L w4,L u] H2 _:=zu (C:=d.F) (E:=E)<|aj (i:=4) J (λ_ _ _ _ _ h=>h) hN;have I0:NT d.F E (RL K<|RC K k) (L [a6,a7,a8]) [L<|.ref a,L<|.int i,L<|.int j,L w4,L u] H2 _:=(H_ aI (i:=6) (j:=9) v4 zC zC (by show 9<=9;decide)).cZ λ_ _ _=>zQ;have t3:=qT<|(Ua I0 (by show 3<=4096;decide)).resolve_right λz=>z hk;rw[Bw.spring_eq hf] at si;refine iO (qS t2 λ_=>t3) (λc H3 s3=>?_) λc H3 s3=>?_
  ·rw[tU] at c
   rw[aK c] at si;exact n9 hs kk si<|dP.trans s3
  ·rw[tU] at c
   rw[ay (by rw[c];decide)] at si;have gL:=dP.trans s3;have tl:NB (decide (8192<=(W.springs.length:ae))) [L<|.ref a,L<|.int i,L<|.int j,L w4,L u] H3 _:=sZ<|j0 (g:=λi j=>decide (j<=i)) (Er (MI T<|v0 gL)) fK;refine iO tl (λc H4 s4=>?_) λc H4 s4=>?_
   ·have c:8192<=(W.springs.length:ae):=dG c
    exact n9 hs kk (si.trans<|aK (show 8192<=W.springs.length by omega))<|gL.trans s4
   ·have c:¬8192<=(W.springs.length:ae):=vd c
    have si:=si.trans<|ay (show¬8192<=W.springs.length by omega);have hJ:=gL.trans s4;obtain⟨dx,vk,vw,vb,vs,g1,g2,g3,g4,g5,g6,g7,g8⟩:=id hs;have e6:H4 ps=L (.lst vs):=hJ _ _ g6;have hl:vs.length<bI:=by rw[g7.bH];exact wq hs.ok.2.2 dc
    refine⟨_,J,a,d.C,dx,_,.ref ps,J,hJ _ _ g1,T.cl,T.na _ dk,(by unfold i9;sleep 1),.inl ⟨J,_,SqL.of e6⟩,?_⟩;have r9:R9 K k H4 u [a0,a1,a2,a3,a4,a5,a6,a7,a8]:=⟨.inl<|cE aI _ _ _ _ (s3.trans s4) U4,J⟩;have ni:NT d.F E fH (L i.toNat) [L<|.ref a,L<|.int i,L<|.int j,L w4,L u] H4<|aw 1:=aj J iq (by show V.int i=V.int (i.toNat:ae);rw[Ck hI.1]);have nj:NT d.F E fH (L j.toNat) [L<|.ref a,L<|.int i,L<|.int j,L w4,L u] H4<|aw 2:=aj J iq (by show V.int j=V.int (j.toNat:ae);rw[Ck hI.2.2.1]);have nm:=zB (R:=i_ K d.S k) (D:=d.S) (t:=L (i.toNat,j.toNat,[a0,a1,a2,a3,a4,a5,a6,a7,a8],())) (f:=λx=>L<|Wv x.1 x.2.1 x.2.2.1)<|aF iq ni (aF iq nj<|aF Tr (aj (i:=4) J Tr r9) bR);refine nm.go λv H5 s5 rb=>?_;have md:=hJ.trans s5;refine⟨ps,vs,v,J,J,md _ _ g6,hl,?_⟩;have sc:=hs.Zb md rb ⟨by show i.toNat<_;omega,by show j.toNat<_;omega,by show i.toNat≠j.toNat;omega⟩ om g6;refine(HS (C:=d.F) (E:=E) (σ:=[L<|.ref a,L<|.int i,L<|.int j,L w4,L u]) (g:=λi j=>i-j) (Er (MI T<|aj (i:=0) J fA ⟨a,pb,ps,J,sc⟩)) fK).go λv H7 s7 q7=>?_;have q7:v=_:=q7;subst q7;refine kk H7 _ pb ps _ (gM FV si) ⟨λc o e n1 n2 n3=>s7 _ _ (by rw[bJ n3];exact md _ _ e),.inl J,.inl J⟩ (sc.same s7) ?_;rw[si];refine⟨gM V.int ?_,J⟩;rw[iT];show((W.springs.length+1:ag):ae)-1=((W.springs.length:ag):ae)
    lia
theorem BU:i9 v0 v1 v2 v3=([("kind",v0),("bodies",v1),("springs",v2),("walls",v3)]:af<|ax×V):=by unfold i9;sleep 2
theorem sce_putW:aY "walls" v (i9 v0 v1 v2 v3)=i9 v0 v1 v2 v:=by rw[BU,BU];sleep 2
theorem sce_putB:aY "bodies" v (i9 v0 v1 v2 v3)=i9 v0 v v2 v3:=by rw[BU,BU];sleep 2
theorem SQ{fs jI:af (ax×V)}(X:SX P w K mg base d)(h:H a=L (.ins d.C dx fs)):J0 d H (aC H a<|.ins d.C dx jI):=by
 have d5:∀D,D≠d.C-> ∀b e f,H b=L (.ins D e f)->aC H a (.ins d.C dx jI) b=L (.ins D e f):=λD n b e f q=>by
  rw[bJ<|eJ q h λz=>by cases z;exact n J];exact q
 exact⟨cw.aC (by rw[h];trivial),d5 _ X.TJ,d5 _ X.TH,d5 _ X.TQ⟩
abbrev Wo(K:aq)(d:Cs)(k:aB):Sp:=oW K d k (aE (F0 K k 6) cg) (λx=>.walls x.1) yp
theorem IS:bF ["self","row","numbers","k"] ["self","row"] (ba<|sS 7):=fs
theorem ok_setWalls{f:ak}{fd:c7}(F:bh K "set_walls" "Scene.set_walls" (sS 7) f fd)(X:SX P w K mg base d)(k:aB):aD P w K mg base (aQ P w d.F) 50 f fd ["self","row"]<|Wo K d k:=by
 obtain⟨f1,bZ,M1,b1,O1⟩:=X.rn;obtain⟨f2,di,G2⟩:=X.QQ;have O2:aD P w K mg base (aQ P w d.F) 5 f2 di ["x","y"]<|oV K d.F k:=(xB G2.F k).gz.aV dc;obtain⟨c1,e1⟩:=X.cBN;have T:=X.T;refine F.oc IS λH Q E hr h=>?_;obtain⟨a,pb,ps,W,⟨l,_⟩,r,rfl,hs,ar20,kk⟩:=h;refine ar20.c1 λw2 uM=>?_;obtain⟨h2,h6⟩:=uM
 refine⟨_,aG (bC 2 IS.nd<|bW (O 0) T.cl M1 (O1 k) (hr.aV dc) b1 .nil aA (bz<|O 1))
  (aG (dU (PW.pt (qr (dD zG (O 2) nY<|cW _) (vA<|i7 (jL (Rc J) J X.TC.any boot_any (bz (oM (own:=[("k",3)]) (te:=d_ (oV K d.F k) [] E (aU (bY (kZ K) (aw 2) _)<|aU (bY (kZ K) (aw 2)<|aw 3) b8)) J J J jZ J IS.nd (zK J X.TC.range<|bz a_) bk (λ_ _ _ _ _=>eC 3 IS.nd) (λ_ _ _ _ _=>jo) λ_ _ _ _ _=>cM O2 (hr.aV dc) J G2.m G2.F.kp G2.b .nil j1 (bK (d4 kr (O 2) (bO fC (O 3) a_) λ_ _=>J)<|d4 kr (O 2) (O 3) λ_ _=>J))))))) (aR (bp<|dH J e1 (v:=.int (-3)) ⟨c1,J⟩)) d7)
  (aG (dM (O 0) (nX qJ J X.TC.tuple sk (bz<|O 2)) J)
  (aR<|bp a_))),?_⟩
 have h1:eS K d k H (.ref a) W:=⟨a,pb,ps,J,hs⟩;have hk:=hs.zk;have h6:l.length=6:=h6;refine j3 (Et (E:=E) (aj (i:=0) J fA h1)<|aj (i:=1) J xl h2) λu U s1 q1=>?_;rcases HZ q1 with⟨hf,rfl⟩|⟨hf,q2,hN⟩
 ·refine iO (a:=ao) (λH3 Q3 s3 k3=>⟨_,J,J,_,J,jJ<|k3 H3 sr⟩) (λ_ H3 s3=>?_) (λc=>nomatch c)
  exact n9 hs kk (Bw.Wx (Bw.walls_bad h6<|by simpa using hf))<|s1.trans s3
 ·have q2':RL K (RC K k) U u l:=zQ q2
  sleep 3;obtain⟨a0,a1,a2,a3,a4,a5⟩:=Bw.S_ h6;sleep 4;have t2:NB aM [L<|.ref a,L w2,L u,ah] U _:=zu (C:=d.F) (E:=E)<|aj (i:=2) J (λ_ _ _ _ _ h=>h) hN
  have nl:NT d.F E (RL K RB) _ [L<|.ref a,L w2,L u,ah] U _:=(Uk (i:=3) (vs:=[3]) (n:=3) (R:=RB) (λ_ _ _ _ _ _ _ h=>h) Ts (aF il fK bR) dc (λ_=>J) λH2 j s2 hj=>by
   have v2:NT d.F E (RL K<|RC K k) (L [a0,a1,a2,a3,a4,a5]) ((da [L<|.ref a,L w2,L u,ah] [3]).set 3 (L<|.int (j:ae))) H2<|aw 2:=aj J (cE aI) (cE aI _ _ _ _ s2 q2');have v3:NT d.F E fH (L j) ((da [L<|.ref a,L w2,L u,ah] [3]).set 3 (L<|.int (j:ae))) H2<|aw 3:=aj J iq J;have ix:∀i,i<6->[a0,a1,a2,a3,a4,a5][i]? =L ([a0,a1,a2,a3,a4,a5].getD i 0):=λi hi=>by
    rw[Cq,yi hi];rfl
   exact tj ((qU aI v2 (HL v3<|zC (n:=3))<|ix (j+3) om).cZ λ_ _ _=>dS hk)<|(qU aI v2 v3<|ix j om).cZ λ_ _ _=>dS hk).eq<|Bw.l9 _
  have t3:=qT ((Ub nl).eq<|by rw[any_map]);have we:=Bw.walls_eq hf;refine iO (qS t2 λ_=>t3) (λc H3 s3=>?_) λc H3 s3=>?_
  ·rw[tU] at c
   exact n9 hs kk (Bw.Wx<|by rw[we,aK c])<|s1.trans s3
  ·rw[tU] at c
   rw[ay (by rw[c];decide)] at we;have gL:=s1.trans s3;obtain⟨p,vs,rfl,hp,ha,_⟩:=q2;refine⟨_,J,p,vs,J,.inl ⟨SqL.of<|s3 _ _ hp,λt ht=>⟨_,J,?_⟩⟩⟩;have s4:az H3 (aC H3 t<|.tup vs):=az.new ht;have hJ:=gL.trans s4;obtain⟨dx,vk,vw,vb,vs',g1,g2,g3,g4,g5,g6,g7,g8⟩:=hs.same hJ;refine⟨a,d.C,dx,_,J,g1,T.cl,T.na _ dk,(by rw[BU];show 4<1000;decide),?_⟩;rw[sce_putW];have i5:=SQ (jI:=i9 vk (.ref pb) (.ref ps)<|.ref t) X g1;have Ej:pb≠a:=eJ g4 g1 (by intro z;cases z);have Mz:ps≠a:=eJ g6 g1 (by intro z;cases z);have r6:C3 K k (aC H3 t<|.tup vs) (.ref t)<|L (⟨a0,a1,a2⟩,⟨a3,a4,a5⟩):=.inr ⟨_,J,⟨t,J⟩,t,vs,J,cH.of bw,ha.imp λv x=>aI _ _ _ _<|s3.trans s4⟩;sleep 3;obtain⟨pU,b,dk,ek,hb⟩:=g2;sleep 4;refine kk _ _ pb ps _ (gM FV<|Bw.Wy we) ⟨λc o e n1 n2 n3=>by rw[bJ n1];exact hJ _ _ e,.inl J,.inl J⟩ ⟨dx,vk,.ref t,vb,vs',bw,⟨pU,b,dk,ek,i5.k _ _ _ hb⟩,qR _ _ _ _ i5.t r6,by rw[bJ Ej];exact g4,g5.imp λv x h=>KS h i5.t i5.b,by rw[bJ Mz];exact g6,g7.imp λv x h=>OG h i5.t i5.s,g8⟩ ?_;rw[Bw.Wy we];exact⟨J,J⟩
abbrev Wl(K:aq)(d:Cs)(k:aB):Sp:=oW K d k (aE RI<|aE (RX k) cg) (λx=>.step x.1 x.2.1) yp
theorem VD:bF ["self","n","bits","dt"] ["self","n","bits"] (ba<|sS 8):=fs
theorem Jq{dt:ag}(h:Bw.jt k dt W n bs=L gG):gG.length=bs.length:=Bw.Jq (λ_ _ e=>Wz e) n bs gG h
theorem SR(h:RO K k H v<|L x):decide (v= .cu)=aM:=by
 obtain⟨⟨p,rfl,_⟩,_⟩:=h;exact hX (λz=>nomatch z)
theorem ok_step{f:ak}{fd:c7}(F:bh K "step" "Scene.step" (sS 8) f fd)(X:SX P w K mg base d)(k:aB):aD P w K mg base (aQ P w d.F) 50 f fd ["self","n","bits"]<|Wl K d k:=by
 obtain⟨f1,bZ,M1,b1,O1⟩:=X.fb;obtain⟨c1,e1⟩:=X.cBN;obtain⟨c2,e2⟩:=X.cMT;obtain⟨c3,e3⟩:=X.cSF;obtain⟨c4,e4⟩:=X.cOR;have T:=X.T;refine F.oc VD λH Q E hr h=>?_;obtain⟨a,pb,ps,W,⟨n,x,_⟩,r,rfl,hs,ar21,kk⟩:=h;refine ar21.c2 λw2 w3 h2 h3=>?_
 refine⟨_,aG (dU (PW.pt (qr (dD lU (O 1) a_<|cW _)<|vA (dD vh (O 1) (dH J e2 (v:=.int 1000000) ⟨c2,J⟩)<|cW _))) (aR (bp<|dH J e4 (v:=.int (-2)) ⟨c4,J⟩)) d7)
  (aG (bC 3 VD.nd (bW (bu<|O 0) X.TK.cl M1 (O1 k) (hr.aV dc) b1 .nil aA (bz<|O 2)))
  (aG (dU (dD zG (O 3) nY<|cW _) (aR (bp<|dH J e1 (v:=.int (-3)) ⟨c1,J⟩)) d7)
  (aG (EH (tb:=λHc=>xN K (aw 0) (d_ (Ji K d.F d.K d.B d.S k) [] (λ_ _ H'=>Hc H') (aU (c9 K (aw 0) "kind")<|aU (c9 K (aw 0) "bodies") (aU (c9 K (aw 0) "springs")<|aU (c9 K (aw 0) "walls") (aU (aw 1)<|aU (aw 3) b8)))) "bodies") J J J X.TK.sD J X.TK.sX
    (λHc pl=>aR (dM (O 0) (X.ss.c k hr EA (dC (bu<|O 0) (dC (bu<|O 0) (dC (bu<|O 0)<|bG (bu<|O 0) (O 1)<|O 3)))) J)) λpl e=>aR (bp<|dH J e3 (v:=.int (-5)) ⟨c3,J⟩))
  (aR<|bp a_)))),?_⟩
 have h1:eS K d k H (.ref a) W:=⟨a,pb,ps,J,hs⟩;have hk:=hs.zk;have h2:w2= .int n:=h2;subst h2;have h3:RX k H w3 x:=h3;have v1:∀{H2:Hp}{y:au V},NT d.F E RI (L n) [L<|.ref a,L<|.int n,L w3,y] H2<|aw 1:=aj J il J;have v0:∀{E:XK}{H2:Hp}{y:au V},az H H2->NT d.F E (eS K d k) (L W) [L<|.ref a,L<|.int n,L w3,y] H2 (aw 0):=λs=>aj J fA<|fA.up s h1;have t1:NB (decide (n<0)||decide (1000000<n)) [L<|.ref a,L<|.int n,L w3,ah] H _:=qS (sZ<|j0 (g:=λi j=>decide (i<j)) v1 fK) λ_=>sZ<|j0 (g:=λi j=>decide (j<i)) v1 fK;refine iO t1 (λc U s1=>?_) λc U s1=>?_
 ·exact n9 hs kk (Bw.st_step_r<|by simpa using c) s1
 have c:¬(n<0\/1000000<n):=by
  intro z;rw[Ad] at c;exact z.elim (vd c.1)<|vd c.2
 refine j3 (MK (K:=K) (M:=d.F) (E:=E) (σ:=[L<|.ref a,L<|.int n,L w3,ah]) (uY T<|v0 s1)<|aj (i:=2) J zr h3) λu H2 s2 q2=>?_;have dP:=s1.trans s2;by_cases hf:jH k x=ao
 ·have ef:oE k x=L x:=aK hf
  rw[ef] at q2;have t2:NB aM [L<|.ref a,L<|.int n,L w3,L u] H2 _:=zu (C:=d.F) (E:=E) (aj (i:=3) J (λ_ _ _ _ _ h=>h)<|SR q2);refine iO t2 (λc=>nomatch c) λ_ H3 s3=>?_;have gL:=dP.trans s3;have rc:RC K k H3 u x:=aI.up s3 q2;have ok:=hs.ok;have si:=Bw.st_step_i (w:=W) hk c rc.2;obtain⟨dx,vk,vw,vb,vs,g1,g2,g3,g4,g5,g6,g7,g8⟩:=hs.same gL;refine⟨λH'=>az H3 H'/\Bw.jt k x {springs:=W.springs,walls:=W.walls} n.toNat W.bodies=ah,?_,λaS H'⟨s4,e4⟩_=>?_⟩
  ·have rn:fH H3 (.int n) n.toNat:=by show V.int n=V.int (n.toNat:ae);rw[Ck om]
   refine⟨_,J,a,d.C,dx,_,vk,J,g1,T.cl,T.na _ dk,(by unfold i9;sleep 1),_,J,a,d.C,dx,_,.ref pb,J,g1,T.cl,T.na _ dk,(by unfold i9;sleep 1),_,J,a,d.C,dx,_,.ref ps,J,g1,T.cl,T.na _ dk,(by unfold i9;sleep 1),_,J,a,d.C,dx,_,vw,J,g1,T.cl,T.na _ dk,(by unfold i9;sleep 1),_,J,_,J,?_⟩;refine⟨((),W.bodies,W.springs,W.walls,n.toNat,x,()),⟨⟨_,_,J,g2,_,_,J,⟨pb,vb,J,SqL.of g4,g5⟩,_,_,J,⟨ps,vs,J,SqL.of g6,g7⟩,_,_,J,g3,_,_,J,rn,_,_,J,rc,J⟩,ok.1,ok.2.1,ok.2.2,by show n.toNat<=1000000;omega⟩,λH4 v l s4 el ql=>?_,λH4 s4 e=>⟨s4,e⟩⟩;have el:Bw.jt k x {springs:=W.springs,walls:=W.walls} n.toNat W.bodies=L l:=el;have ll:=Jq el;have hJ:=gL.trans s4;rw[el] at si;have Lj:=s4 _ _ g1;refine⟨_,J,a,d.C,dx,_,J,Lj,T.cl,T.na _ dk,(by rw[BU];show 4<1000;decide),?_⟩;rw[sce_putB];have i5:=SQ (jI:=i9 vk v (.ref ps) vw) X Lj;have Mz:ps≠a:=eJ g6 g1 (by intro z;cases z);obtain⟨pU,b,dk,ek,hb⟩:=g2;have dr:∀gn mV,v= .ref gn->H4 gn=L (.lst mV)->cf (cp K d.B k H4) mV l->gn≠ps->(gn=pb\/H gn=ah)->Q (.int 0) (aC H4 a (.ins d.C dx<|i9 vk v (.ref ps) vw)):=λgn mV ev Ha LX nbs hor=>by
    subst ev;have Ej:gn≠a:=eJ Ha Lj (by intro z;cases z);refine kk _ _ gn ps _ (gM FV si) ⟨λc o e n1 n2 n3=>by rw[bJ n1];exact hJ _ _ e,hor,.inl J⟩ ⟨dx,vk,vw,mV,vs,bw,⟨pU,b,dk,ek,i5.k _ _ _<|s4 _ _ hb⟩,qR _ _ _ _ i5.t<|qR.i.m.up s4 g3,by rw[bJ Ej];exact Ha,LX.imp λv x h=>KS h i5.t i5.b,by rw[bJ Mz];exact s4 _ _ g6,g7.imp λv x h=>OG (eO.m.up s4 h) i5.t i5.s,nbs,by show ox l.length _;rw[ll];exact ok.1,by show l.length<=_;rw[ll];exact ok.2.1,ok.2.2⟩ ?_;rw[si];exact⟨J,J⟩
   rcases ql with⟨ev,rl⟩|⟨gn,mV,ev,Ha,LX,hn⟩
   ·have el:l=W.bodies:=rl
    subst el;exact dr pb vb ev (s4 _ _ g4) (g5.imp λv x=>cD _ _ _ _ s4) g8.1<|.inl J
   ·exact dr gn mV ev Ha LX (λz=>by rw[z,g6] at hn;cases hn) (.inr<|gL.free hn)
  ·rw[e4] at si
   exact n9 hs kk si<|gL.trans s4
 ·have ef:oE k x=ah:=ay hf
  rw[ef] at q2;have q2:u= .cu:=q2;subst q2;refine iO (a:=ao) (λH3 Q3 s3 k3=>⟨_,J,J,_,J,k3 H3 sr⟩) (λ_ H3 s3=>?_) (λc=>nomatch c);exact n9 hs kk (Bw.st_step_n c hf)<|dP.trans s3
end
end BW
namespace BW
open PySem PySem.Spec PyProof.Rows L2
open Bw (bV cV bg cq bf fI nN uC)
section
variable{K:aq}{C:ak}{E:XK}{σ:L2.St}{H:Hp}{te ta:TE}
theorem qV(h:NT C E RI (L n) σ H te):NT C E (jy H RI) (L [n]) σ H (Jv<|aU te b8):=λU Q s k=>(h.at_ s).go λv H2 s2 q=>⟨(by show 1<=bI;decide),λp hp=>by
 subst q
 exact k.ok _ _ _ (s2.trans<|az.new hp) J ⟨p,_,J,bw,⟨J,ck⟩,(s.trans s2).free hp⟩⟩
theorem Bz(h:NT C E RI (L n) σ H te)(h2:NT C E (fG RI) (L l) σ H ta)(hl:l.length<=30000):NT C E (jy H RI) (L<|n::l) σ H<|bY Ip (Jv<|aU te b8) ta:=λU Q s k=>by
 refine((qV h).at_ s).go λv H2 s2⟨p,vs,e,hp,ha,hn⟩=>(h2.at_<|s.trans s2).go λu H3 s3⟨p2,us,e2,lO,sI⟩=>?_;subst e e2;have l1:=ha.bH;have l2:=sI.bH;refine⟨p,p2,vs,us,J,J,s3 _ _ hp,lO,?_,λq hq=>k.ok _ _ _ ((s2.trans s3).trans<|az.new hq) J ⟨q,_,J,bw,ha.append sI,((s.trans s2).trans s3).free hq⟩⟩;have l1:vs.length=1:=l1;have:30001<=bI:=by decide
 lia
theorem Bn(l:af ag):(Rb49Neutral.ints l).length=l.length:=by simp[Rb49Neutral.ints]
end
section
variable{P:cO}{w:World}{K:aq}{mg:ax->au aH}{base:b9}{d:Cs}{k:aB}
theorem Bu(h:0<=n):fH H (.int n) n.toNat:=by show V.int n=V.int n.toNat;rw[Ck h]
theorem MQ(T:Tx K mg d.C "Scene" oz)(h:NT d.F E (eS K d k) (L W) σ H t0)(h1:NT d.F E RI (L a) σ H t1)(h2:NT d.F E RI (L n) σ H t2)(hb:fI W a n=ao):NT d.F E (jy H<|cp K d.B k) (L<|(W.bodies.drop a.toNat).take n.toNat) σ H<|B8 (zN K) (c9 K t0 "bodies") (rD t1) (rD<|bY (gu λi j=>.int<|i+j) t1 t2):=by
 have hb:=Bw.LD hb;have e:(W.bodies.drop a.toNat).take n.toNat=(W.bodies.drop a.toNat).take ((a+n).toNat-a.toNat):=by congr 1;lia
 rw[e];exact H_ cD ((BA T h).cZ λ_ _ _ h=>h.1) (h1.conv λ_ _ e=>by rw[e];exact Bu hb.1) ((HS h1 h2).conv λ_ _ e=>by rw[e];exact Bu om) om
theorem Vf(h:RL K (RC K k) H v l)(hl:l.length<=30000):F3 K k H v l:=⟨h,hl⟩
abbrev Wr(K:aq)(d:Cs)(k:aB):Sp:=oW K d k (aE RI (aE RI<|aE RI cg)) (λx=>.get x.1 x.2.1 x.2.2.1) uj
theorem NH:bF ["self","first","n","what","body"] ["self","first","n","what"] (ba<|sS 9):=fs
theorem ok_tell{f:ak}{fd:c7}(F:bh K "tell" "Scene.tell" (sS 9) f fd)(X:SX P w K mg base d)(k:aB):aD P w K mg base (aQ P w d.F) 50 f fd ["self","first","n","what"]<|Wr K d k:=by
 obtain⟨f1,bZ,M1,b1,O1⟩:=X.yZ;obtain⟨f2,di,M2,b2,O2⟩:=X.ab;obtain⟨f3,fv,M3,b3,O3⟩:=X.tw;obtain⟨c2,e2⟩:=X.cB;obtain⟨c4,e4⟩:=X.cOR;have T:=X.T;refine F.oc NH λH Q E hr h=>?_;obtain⟨a,pb,ps,W,⟨i,n,x,_⟩,r,rfl,hs,ar22,kk⟩:=h;refine ar22.c3 λw2 w3 w4 h2 h3 h4=>?_
 refine⟨_,aG (dU (PW.pt (qr (vz (i7<|bW (O 0) T.cl M1 (O1 k) (hr.aV dc) b1 .nil aA (bK (O 1)<|O 2))) (qr (dD lU (O 3) a_<|cW _)<|vA (dD xE (O 3) (dH J e2 (v:=.int 20) ⟨c2,J⟩)<|cW _)))) (aR (bp<|gr (bz<|dH J e4 (v:=.int (-2)) ⟨c4,J⟩))) d7)
  (aR (bp (bO ve (gr<|bz a_)<|bW (O 0) T.cl M2 (O2 k) (hr.aV dc) b2 .nil aA (bz (oM (own:=[("body",4)]) (te:=bY (dI K) (eE d.B "twenty" (vN K d.F d.B k) [] E (aw 4) b8)<|aw 3) J J J jZ J NH.nd (jm (lX l_ (bu<|O 0) (gd<|O 1)<|gd (bO fC (O 1)<|O 2))) bk (λ_ _ _ _ _=>eC 4 NH.nd) (λ_ _ _ _ _=>jo) λ_ _ _ _ _=>d4 uQ (eu (O 4) X.TB.cl M3 (O3 k) (hr.aV dc) b3 .nil j1) (O 3) λ_ _=>J))))),?_⟩
 have h1:eS K d k H (.ref a) W:=⟨a,pb,ps,J,hs⟩;have v0:∀{H2:Hp},az H H2->NT d.F E (eS K d k) (L W) [L<|.ref a,L w2,L w3,L w4,ah] H2 (aw 0):=λs=>aj J fA<|fA.up s h1;have v1:∀{H2:Hp},NT d.F E RI (L i) [L<|.ref a,L w2,L w3,L w4,ah] H2<|aw 1:=aj J il h2;have v2:∀{H2:Hp},NT d.F E RI (L n) [L<|.ref a,L w2,L w3,L w4,ah] H2<|aw 2:=aj J il h3;have v3:∀{H2:Hp},NT d.F E RI (L x) [L<|.ref a,L w2,L w3,L w4,ah] H2<|aw 3:=aj J il h4;have t1:NB (!fI W i n||(decide (x<0)||decide (20<=x))) [L<|.ref a,L w2,L w3,L w4,ah] H _:=qS (xm (qT<|HR (v0<|az.refl H) v1 v2)) λ_=>qS (sZ<|j0 (g:=λi j=>decide (i<j)) v3 fK) λ_=>sZ<|j0 (g:=λi j=>decide (j<=i)) v3 fK;refine iO t1 (λc U s1=>?_) λc U s1=>?_
 ·exact(oQ (M:=d.F) (E:=E) hs kk<|Bw.st_get_r c).gX s1 ((qV fK).cZ λ_ _ _ vW=>by obtain⟨p,vs,r1,r2,r3,r4⟩:=vW;exact⟨p,vs,r1,r2,r3,s1.free r4⟩)
 ·have kk:=oQ (M:=d.F) (E:=E) hs kk<|Bw.st_get_s c
  have hc:fI W i n=ao/\0<=x/\x<20:=by
   simp only[Ad,JQ,Gz] at c;exact⟨c.1,om,om⟩
  have hB:=Bw.LD hc.1;have ln:((W.bodies.drop i.toNat).take n.toNat).length<=4096:=by
   rw[kJ,Cu];have:=hs.ok.2.1;omega
  have nl:=((xA (K:=K) (i:=4) (vs:=[4]) (R:=RC K k) (R':=cp K d.B k) (f:=λb=>L<|(nz b).getD x.toNat 0) dw.i.mO aI cD ((MQ T (v0 s1) v1 v2 hc.1).cZ λ_ _ _=>zQ) (dN ln dc) (λ_=>J) λH2 v b s2 _ rb=>Eo aI (MS<|aj (i:=4) J cD rb) (aj (i:=3) J iq (by rw[show w4=_ from h4];exact Bu hc.2.1)) (by
   have:x.toNat<(nz b).length:=by show x.toNat<20;omega
   rw[Cq,yi this]
   rfl)).eq<|Bw.l9 _).conv λ_ _ h=>Vf h (by rw[ie];omega)
  exact kk.gX s1 ((Bz fK (HK (v0 s1) nl) (by rw[Bn,ie];omega)).cZ λ_ _ _ mX=>by obtain⟨p,vs,r1,r2,r3,r4⟩:=mX;exact⟨p,vs,r1,r2,r3,s1.free r4⟩)
abbrev Wk(K:aq)(d:Cs)(k:aB):Sp:=oW K d k (aE RI (aE RI<|aE (yr K k) cg)) (λx=>.put x.1 (x.2.2.1.length) x.2.1 x.2.2.1) yp
theorem IP:bF ["self","first","what","row","numbers","k","x"] ["self","first","what","row"] (ba<|sS 10):=fs
theorem with_eq(b:fu)(h:yB n=ao)(x:ag):AQ ((nz b).set n x)=Xh b n x:=by
 have:=by unfold yB at h;simpa using h
 have:n=4\/n=5\/n=6\/n=11\/n=12\/n=13\/n=14\/n=15\/n=16\/n=17\/n=18\/n=19:=by lia
 rcases this with rfl|rfl|rfl|rfl|rfl|rfl|rfl|rfl|rfl|rfl|rfl|rfl<;>rfl
theorem eN.setB(h:eN K d k H a pb ps W)(s:az H H')(hb:cp K d.B k H' v b)(hv:H pb=L (.lst vb)):eN K d k (aC H' pb (.lst<|vb.set j v)) a pb ps {W with bodies:=W.bodies.set j b}:=by
 sleep 3;obtain⟨dx,vk,vw,mV,vs,h1,h2,h3,h4,h5,h6,h7,h8,h9,sG,qL⟩:=h.same s;sleep 4;have e:mV=vb:=by rw[s _ _ hv] at h4;cases h4;rfl
 subst e;have i:fO H'<|aC H' pb (.lst<|mV.set j v):=fO.aC (by rw[h4];trivial);exact⟨dx,vk,vw,mV.set j v,vs,i.2 _ _ _ _ h1,Ml.up i h2,qR _ _ _ _ i.1 h3,bw,(h5.imp λv x=>uS _ _ _ _ i).set j<|uS.up i hb,by rw[bJ<|dB h8];exact h6,h7.imp λv x=>eO _ _ _ _ i,h8,by rw[pk];exact h9,by rw[pk];exact sG,qL⟩
theorem ok_put{f:ak}{fd:c7}(F:bh K "put" "Scene.put" (sS 10) f fd)(X:SX P w K mg base d)(k:aB):aD P w K mg base (aQ P w d.F) 50 f fd ["self","first","what","row"]<|Wk K d k:=by
 obtain⟨f1,bZ,M1,b1,O1⟩:=X.yZ;obtain⟨f3,fv,M3,b3,O3⟩:=X.rn;obtain⟨c1,e1⟩:=X.cBN;obtain⟨c4,e4⟩:=X.cOR;have T:=X.T;refine F.oc IP λH Q E hr h=>?_;obtain⟨a,pb,ps,W,⟨i,x,l,_⟩,r,rfl,hs,ar23,kk⟩:=h;refine ar23.c3 λw2 w3 w4 h2 h3 h4=>?_
 refine⟨_,aG (dU (PW.pt (qr (vz (i7<|bW (O 0) T.cl M1 (O1 k) (hr.aV dc) b1 .nil aA (bK (O 1)<|jL oB J X.TC.bH pO (bz<|O 3)))) (vA<|vz (i7<|X.ip.c k hr aA (bz<|O 2))))) (aR (bp<|dH J e4 (v:=.int (-2)) ⟨c4,J⟩)) d7)
  (aG (bC 4 IP.nd<|bW (O 0) T.cl M3 (O3 k) (hr.aV dc) b3 .nil aA (bz<|O 3))
  (aG (dU (dD zG (O 4) nY<|cW _) (aR (bp<|dH J e1 (v:=.int (-3)) ⟨c1,J⟩)) d7)
  (aG (nZ mI J (M5 J X.TC.K9 (bz<|O 4)) (BH J (qk (eC 5 IP.nd)<|qk (eC 6 IP.nd) BI))
    (aR (zM (X.wi.c k hr aA (bG (d4 kr (bu<|O 0) (bO fC (O 1)<|O 5) λ_ _=>J) (O 2)<|O 6)) (zJ (bu<|O 0) (bO fC (O 1)<|O 5) zW))))
  (aR<|bp a_)))),?_⟩
 have h1:eS K d k H (.ref a) W:=⟨a,pb,ps,J,hs⟩;have h2:w2= .int i:=h2;have h3:w3= .int x:=h3;subst h2 h3;have v0:∀{H2:Hp}{y:au V},az H H2->NT d.F E (eS K d k) (L W) [L<|.ref a,L<|.int i,L<|.int x,L w4,y,ah,ah] H2 (aw 0):=λs=>aj J fA<|fA.up s h1;have v1:∀{σ:L2.St}{H2:Hp},σ[1]? =L (L<|.int i)->NT d.F E RI (L i) σ H2 (aw 1):=λe=>aj e il J;have v3:∀{H2:Hp}{y:au V},az H H2->NT d.F E (yr K k) (L l) [L<|.ref a,L<|.int i,L<|.int x,L w4,y,ah,ah] H2 (aw 3):=λs=>aj J xl<|xl.up s h4;have t1:NB (!fI W i (l.length:ae)|| !uC x) [L<|.ref a,L<|.int i,L<|.int x,L w4,ah,ah,ah] H _:=qS (xm (qT (HR (v0<|az.refl H) (v1 J) (Er<|(v3<|az.refl H).cZ λ_ _ _ h=>h.1)))) λ_=>xm (qT<|cT (C:=d.F) (E:=E) (R:=RB) (t:=L (x,())) (f:=λx=>L<|decide (0<=x.1)&&yB x.1.toNat)<|aF il (aj (i:=2) J il J) bR);refine iO t1 (λc U s1=>?_) λc U s1=>?_
 ·exact n9 hs kk (Bw.st_put_r c) s1
 have si:=Bw.st_put_i (k:=k) (l:=l) c;have hc:fI W i (l.length:ae)=ao/\0<=x/\yB x.toNat=ao:=by
  unfold uC at c;simpa using c
 have hB:=Bw.LD hc.1;refine j3 (Et (E:=E) (v0 s1)<|v3 s1) λu H2 s2 q2=>?_;have dP:=s1.trans s2;rcases HZ q2 with⟨hf,rfl⟩|⟨hf,q3,hN⟩
 ·refine iO (a:=ao) (λH3 Q3 s3 k3=>⟨_,J,J,_,J,k3 H3 sr⟩) (λ_ H3 s3=>?_) (λc=>nomatch c)
  exact n9 hs kk (si.trans<|ay hf)<|dP.trans s3
 ·have t2:NB aM [L<|.ref a,L<|.int i,L<|.int x,L w4,L u,ah,ah] H2 _:=zu (C:=d.F) (E:=E)<|aj (i:=4) J (λ_ _ _ _ _ h=>h) hN
  refine iO t2 (λc=>nomatch c) λ_ H3 s3=>?_;have gL:=dP.trans s3;have si:=si.trans<|aK hf;obtain⟨p,vl,rfl,hp,ha,hn⟩:=q3;have hp:=s3 _ _ hp;have ha:cf (RC K k H3) vl l:=ha.imp λv x=>aI _ _ _ _ s3;obtain⟨vb0,hpb0⟩:∃vb,H pb=L (.lst vb):=by
   obtain⟨dx,vk,vw,vb,vs,g1,g2,g3,g4,g5⟩:=id hs;exact⟨vb,g4⟩
  have Ej:p≠pb:=λz=>by rw[z,s1 _ _ hpb0] at hn;cases hn
  refine⟨_,J,p,vl,J,SqL.of hp,?_⟩;have sL:x.toNat<20:=by
   have:=hc.2.2;unfold yB at this;simp at this;omega
  refine Lh (K:=K) (xs:=vl) (λj aS H'=>E2 λ(x5 x6:au V)=>A3 (aS=[L<|.ref a,L<|.int i,L<|.int x,L w4,L<|.ref p,x5,x6]) (gE pb H3 H')<|eN K d k H' a pb ps {W with bodies:=Bw.qZ W.bodies i.toNat x.toNat l j})
   ⟨ah,ah,J,λc o e _=>e,by rw[Bw.putJ_zero];exact hs.same gL⟩ (λj aS H' _ Ac=>by obtain⟨_,_,_,sx,_⟩:=Ac;exact SqL.of<|sx _ _ hp Ej) (λj y Tt aS H' hy I hT=>?_) λaS H' I=>?_
  ·obtain⟨x5,x6,rfl,sx,sc⟩:=I
   obtain⟨z,hz,rz⟩:=ha.get hy;have hj:j<l.length:=(List.getElem?_eq_some_iff.mp hz).1;have sT:az H' (aC H' Tt<|.tup [.int (j:ag),y]):=az.new hT;refine AZ bw ?_;have ID:=sc.same sT;obtain⟨dx,vk,vw,vb,vs,g1,g2,g3,g4,g5,g6⟩:=id ID;have hib:i.toNat+j<W.bodies.length:=by omega
   obtain⟨b,hb⟩:∃b,W.bodies[i.toNat+j]? =L b:=⟨_,yi hib⟩;have uL:(Bw.qZ W.bodies i.toNat x.toNat l j)[i.toNat+j]? =L b:=by rw[Bw.putJ_at];exact hb
   have rz':RC K k (aC H' Tt<|.tup [.int (j:ag),y]) y z:=by
    have tt:cw H3 H':=by
     have e3:=gL _ _ hpb0;exact⟨λb xs e=>sx _ _ e<|eJ e e3 (by intro z;cases z),λb o u e=>sx _ _ e<|eJ e e3 (by intro z;cases z)⟩
    exact dw _ _ _ _ (tt.trans sT.i.1) rz
   have vs0:NT d.F E (eS K d k) (L {W with bodies:=Bw.qZ W.bodies i.toNat x.toNat l j}) [L<|.ref a,L<|.int i,L<|.int x,L w4,L<|.ref p,L<|.int (j:ag),L y] (aC H' Tt<|.tup [.int (j:ag),y])<|aw 0:=aj J fA ⟨a,pb,ps,J,ID⟩;have nix:NT d.F E fH (L<|i.toNat+j) [L<|.ref a,L<|.int i,L<|.int x,L w4,L<|.ref p,L<|.int (j:ag),L y] (aC H' Tt<|.tup [.int (j:ag),y]) _:=HL (aj (i:=1) J iq<|Bu hB.1)<|aj (i:=5) J iq J;have nb:NT d.F E (cp K d.B k) (L<|Xh b x.toNat z) _ (aC H' Tt<|.tup [.int (j:ag),y]) _:=(cT (t:=L (b,x.toNat,z,())) (f:=λx=>L (AQ<|(nz x.1).set x.2.1 x.2.2.1))<|aF cD (qU cD ((BA T vs0).cZ λ_ _ _ h=>h.1) nix uL) (aF Tw (aj (i:=2) J Tw ⟨Bu (H:=H') hc.2.1,sL⟩)<|aF aI (aj (i:=6) J aI rz') bR)).eq (gM L<|with_eq b hc.2.2 z);refine nb.go λv H4 s4 rb=>?_;have sc4:=ID.same s4;have dJ:vb.length=W.bodies.length:=by rw[g5.bH];exact Bw.U2
   have zh:kQ vb.length (i+(j:ae))=L (i.toNat+j):=by
    unfold kQ;rw[aK om,aK om]
    congr 1
    omega
   refine⟨_,J,a,d.C,dx,_,.ref pb,J,s4 _ _ g1,T.cl,T.na _ dk,(by unfold i9;sleep 1),_,J,_,J,_,_,J,J,pb,vb,_,i.toNat+j,J,J,s4 _ _ g4,zh,?_⟩;have sc5:=ID.setB (j:=i.toNat+j) s4 rb g4;refine⟨_,_,J,λc o e n=>?_,?_⟩
   ·rw[bJ n]
    exact s4 _ _ (sT _ _<|sx _ _ e n)
   ·rw[Bw.putJ_succ hb hz]
    exact sc5
  ·obtain⟨x5,x6,rfl,sx,sc⟩:=I
   rw[ha.bH] at sc;refine kk H' _ pb ps _ (gM FV si) ⟨λc o e n1 n2 n3=>sx _ _ (gL _ _ e) n2,.inl J,.inl J⟩ sc ?_;rw[si];exact⟨J,J⟩
end
end BW
namespace BW
open PySem PySem.Spec PyProof.Rows L2
open Bw (bV fk NS gP)
open Rb49Neutral (kindOf nats)
abbrev BK:af ax:=["calls","at"]
def k_(v0 v1:V):af<|ax×V:=aY "at" v1<|aY "calls" v0 []
theorem BL:(k_ v0 v1).lookup ("at":ax)=L v1:=by unfold k_;sleep 1
theorem Ni:(k_ v0 v1).lookup ("calls":ax)=L v0:=by unfold k_;sleep 1
theorem Ir{m:ax}(h:(decide (¬m="at")&&decide (¬m="calls"))=ao):(k_ v0 v1).lookup m=ah:=by
 rw[eX] at h;unfold k_;rw[du,ay<|dG h.1,du,ay<|dG h.2];rfl
theorem Va:aY "at" v (k_ v0 v1)=k_ v0 v:=by
 have e:∀x,k_ v0 x=(_:af _):=λx=>by unfold k_;sleep 2
 rw[e,e];sleep 2
def t_(K:aq)(H:Hp)(a:ak)(xs:af V):Prop:=(∃o,H a=L (.iX o<|.lst xs))\/ ∃(o:eR)(aZ:jv aH)(n:ag),K.lookup a=L o/\o.cls= .type "list"/\o.dict=ah/\o.data= .seq aZ n/\aZ.size<=bI/\cJ xs aZ.toList
theorem t_.sq{K:aq}(h:t_ K H a xs):SqL K H a xs:=h.imp (λdm=>by obtain⟨o,e⟩:=dm;exact .inr ⟨o,e⟩) λh=>h
theorem t_.same{K:aq}(h:t_ K H a xs)(s:cw H H'):t_ K H' a xs:=h.imp (λdW=>by obtain⟨o,e⟩:=dW;exact⟨o,s.2 _ _ _ e⟩) λh=>h
def wI(K:aq)(d:Cs)(H:Hp)(ra la:ak)(calls:af ae)(n:ag):Prop:=(∃dx,H ra=L (.ins d.R dx (k_ (.ref la)<|.int n)))/\t_ K H la (calls.map V.int)/\n<=calls.length
theorem gE.t{fs:af (ax×V)}(s:gE a H H')(h:H a=L (.ins C dx fs)):cw H H':=⟨λb xs e=>s b _ e<|eJ e h (by intro z;cases z),λb o u e=>s b _ e<|eJ e h (by intro z;cases z)⟩
abbrev sR(j:ag):dq:=sQ (aO 98) j
section
variable{P:cO}{w:World}{K:aq}{mg:ax->au aH}{base:b9}{d:Cs}
inductive Ou(K:aq)(d:Cs)(vs:af V)(H:Hp)(Q:VK)(lu:XK):Prop
 |mk:∀(p la dx:ak)(calls:af ae),vs=[.ref p,.ref la]->H p=L (.ins d.R dx [])->t_ K H la (calls.map V.int)->(∀H',gE p H H'->wI K d H' p la calls 0->Q .cu H')->Ou K d vs H Q lu
theorem scRI:bF ["self","calls"] ["self","calls"] (ba<|sR 0):=fs
theorem ok_rinit(F:bh K "__init__" "Reader.__init__" (sR 0) f fd)(T:Tx K mg d.R "Reader" BK):aD P w K mg base (aQ P w d.F) 10 f fd ["self","calls"]<|Ou K d:=by
 refine F.qi scRI (λvs H Q E h=>?_) λcj A bA s H vs Q E hr h=>?_
 ·obtain⟨p,la,dx,calls,rfl,_⟩:=h
  rfl
 ·obtain⟨p,la,dx,calls,rfl,hp,hl,kk⟩:=h
  refine⟨_,aG (dM (O 0) (O 1) J) (aR<|dM (O 0) a_ J),?_⟩;refine⟨_,J,_,J,p,d.R,dx,_,J,hp,T.cl,T.na _ dk,(by decide),?_⟩;refine⟨_,J,p,d.R,dx,_,J,bw,T.cl,T.na _ dk,(by show 1<1000;decide),?_⟩;have s2:gE p H (aC (aC H p (.ins d.R dx<|aY "calls" (.ref la) [])) p<|.ins d.R dx (aY "at" (.int 0)<|aY "calls" (.ref la) [])):=λc o e n=>by rw[bJ n,bJ n];exact e
  exact kk _ s2 ⟨⟨dx,bw⟩,hl.same<|s2.t hp,eM _⟩
inductive Oa(K:aq)(d:Cs)(vs:af V)(H:Hp)(Q:VK)(lu:XK):Prop
 |mk:∀(ra la:ak)(calls:af ae)(n:ag),vs=[.ref ra]->wI K d H ra la calls n->Q (.bl<|decide (calls.length<=n)) H->Oa K d vs H Q lu
theorem scDn:bF ["self"] ["self"] (ba<|sR 1):=fs
theorem ok_done(F:bh K "is_done" "Reader.is_done" (sR 1) f fd)(TC:jB mg)(T:Tx K mg d.R "Reader" BK):aD P w K mg base (aQ P w d.F) 10 f fd ["self"]<|Oa K d:=by
 refine F.qi scDn (λvs H Q E h=>?_) λcj A bA s H vs Q E hr h=>?_
 ·obtain⟨ra,la,calls,n,rfl,_⟩:=h
  rfl
 ·obtain⟨ra,la,calls,n,rfl,⟨⟨dx,h1⟩,h2,h3⟩,kk⟩:=h
  refine⟨_,aR<|bp (kE xE (bu<|O 0) (jL oB J TC.bH pO<|bz (bu<|O 0))<|cW _),?_⟩;refine⟨_,J,ra,d.R,dx,_,_,J,h1,T.cl,T.na _ dk,BL,_,J,ra,d.R,dx,_,_,J,h1,T.cl,T.na _ dk,Ni,la,_,J,.inl h2.sq,_,_,J,J,?_⟩;rw[ie];show Q (.bl _) H;have e:decide (calls.length<=(n:ae))=decide (calls.length<=n):=by rw[K3];omega
  rw[e];exact kk
def B2(K:aq)(d:Cs):Sp:=λvs H Q _=>∃(ra la:ak)(calls:af ae)(n:ag)(x:ae),vs=[.ref ra]/\wI K d H ra la calls n/\calls[n]? =L x/\ ∀H',gE ra H H'->wI K d H' ra la calls (n+1)->Q (.int x) H'
theorem scTk:bF ["self"] ["self"] (ba<|sR 2):=fs
theorem UJ(F:bh K "take" "Reader.take" (sR 2) f fd)(T:Tx K mg d.R "Reader" BK):aD P w K mg base (aQ P w d.F) 10 f fd ["self"]<|B2 K d:=by
 refine F.qi scTk (λvs H Q E h=>?_) λcj A bA s H vs Q E hr h=>?_
 ·obtain⟨ra,la,calls,n,x,rfl,_⟩:=h
  rfl
 ·obtain⟨ra,la,calls,n,x,rfl,⟨⟨dx,h1⟩,h2,h3⟩,hx,kk⟩:=h
  refine⟨_,aG (U1 (O 0) a_ L0) (aR (bp<|d4 kr (bu<|O 0) (bO iy (bu<|O 0) a_) λ_ _=>J)),?_⟩;refine⟨_,J,ra,d.R,dx,_,_,J,h1,T.cl,T.na _ dk,BL,_,_,J,J,dx,_,h1,(by show 2<1000;decide),?_⟩;have e1:aY "at" (V.int<|n+1) (k_ _<|.int n)=k_ (.ref la) (.int (n+1:ag)):=Va;rw[e1];have s2:gE ra H (aC H ra<|.ins d.R dx (k_ (.ref la)<|.int (n+1:ag))):=λc o e n=>by rw[bJ n];exact e
  have l2:=h2.same<|s2.t h1;have hn:=(List.getElem?_eq_some_iff.mp hx).1;have ex:(calls.map V.int)[n]? =L (.int x):=by rw[m8,hx];rfl
  have ei:(n+1:ag)-1=(n:ae):=by lia
  refine⟨_,J,ra,d.R,dx,_,_,J,bw,T.cl,T.na _ dk,Ni,_,J,ra,d.R,dx,_,_,J,bw,T.cl,T.na _ dk,BL,_,_,J,J,la,_,_,_,J,J,l2.sq,by rw[ei];exact uz ex,?_⟩;exact kk _ s2 ⟨⟨dx,bw⟩,l2,hn⟩
inductive Jm(K:aq)(d:Cs)(vs:af V)(H:Hp)(Q:VK)(lu:XK):Prop
 |mk:∀(ra la:ak)(calls:af ae)(n:ag)(l t:af ae),vs=[.ref ra]->wI K d H ra la calls n->calls.drop n=(l.length:ae)::(l++t)->(∀H' p,gE ra H H'->wI K d H' ra la calls (n+1+l.length)->H p=ah->H' p=L (.lst<|l.map V.int)->Q (.ref p) H')->Jm K d vs H Q lu
theorem VH:bF ["self","length"] ["self"] (ba<|sR 3):=fs
theorem ok_takeRow(F:bh K "take_row" "Reader.take_row" (sR 3) f fd)(T:Tx K mg d.R "Reader" BK)(G1:Gm K d.R "take" "Reader.take" (sR 2) f1 bZ ["self"]):aD P w K mg base (aQ P w d.F) 14 f fd ["self"]<|Jm K d:=by
 have O1:aD P w K mg base _ 10 f1 bZ ["self"] _:=UJ G1.F T;refine F.qi VH (λvs H Q E h=>?_) λcj A bA s H vs Q E hr h=>?_
 ·obtain⟨ra,la,calls,n,l,t,rfl,_⟩:=h
  rfl
 ·obtain⟨ra,la,calls,n,l,t,rfl,hR,hd,kk⟩:=h
  refine⟨_,aG (bC 1 VH.nd<|eu (O 0) T.cl G1.aJ O1 (hr.aV dc) G1.b .nil aA) (aG (U1 (O 0) (O 1) L0)
   (aR (bp (lX l_ (bu<|O 0) (gd<|bO iy (bu<|O 0)<|O 1)<|gd (bu<|O 0))))),?_⟩
  sleep 3;obtain⟨e1,e2,e3⟩:=Bw.K6 hd;sleep 4;obtain⟨r1,r2,r3⟩:=Bw.Rn (by lia) e2;obtain⟨dx0,h0⟩:=hR.1;refine⟨_,J,ra,dx0,_,J,h0,Ir dk,ra,la,calls,n,_,J,hR,e1,λU s1⟨⟨dx,h1⟩,h2,h3⟩=>?_⟩;refine⟨_,J,ra,d.R,dx,_,_,J,h1,T.cl,T.na _ dk,BL,_,J,_,_,J,J,dx,_,h1,(by show 2<1000;decide),?_⟩;have ea:aY "at" (V.int<|(n+1:ag)+l.length) (k_ (.ref la)<|.int (n+1:ag))=k_ (.ref la) (.int ((n+1+l.length:ag):ae)):=by rw[Va];rfl
  rw[ea];have s2:gE ra U (aC U ra<|.ins d.R dx (k_ (.ref la)<|.int ((n+1+l.length:ag):ae))):=λc o e n=>by rw[bJ n];exact e
  have l2:=h2.same<|s2.t h1;refine⟨_,J,ra,d.R,dx,_,_,J,bw,T.cl,T.na _ dk,Ni,_,J,ra,d.R,dx,_,_,J,bw,T.cl,T.na _ dk,BL,_,J,_,_,J,J,_,J,_,J,ra,d.R,dx,_,_,J,bw,T.cl,T.na _ dk,BL,_,J,la,_,J,l2.sq,λp hp=>?_⟩;have ei:((n+1+l.length:ag):ae)-(l.length:ae)=((n+1:ag):ae):=by lia
  have ec:qK (calls.map V.int) (L<|((n+1+l.length:ag):ae)-(l.length:ae)) (L ((n+1+l.length:ag):ae))=l.map V.int:=by
   rw[ei,AR (by rw[ie];exact r3),<-List.map_drop,<-List.map_take,Yi,r2]
  have ne:p≠ra:=λz=>by rw[z,bw] at hp;cases hp
  have SA:H p=ah:=by
   cases q:H p with
   |none=>rfl
   |some u=>rw[bJ ne,s1 p u q ne] at hp;cases hp
  have s3:gE ra H (aC (aC U ra<|.ins d.R dx _) p (.lst<|l.map V.int)):=λc o e m=>by rw[bJ<|dy e SA];exact s2 _ _ (s1 _ _ e m) m
  rw[ec];exact kk _ p s3 ⟨⟨dx,by rw[bJ<|dB ne];exact bw⟩,hR.2.1.same<|s3.t h0,r3⟩ SA bw
end
end BW
namespace BW
open PySem PySem.Spec PyProof.Rows L2
open Bw (bV cV bg cq bf fI placeOf tH)
section
variable{K:aq}{C:ak}{E:XK}{σ:L2.St}{H H0:Hp}{te ta:TE}
theorem _root_.L2.NT.up(h:NT C E (jy H RI) (L l) σ H te)(s:az H0 H):NT C E (jy H0 RI) (L l) σ H te:=h.cZ λ_ _ _ dm=>by obtain⟨p,vs,r1,r2,r3,r4⟩:=dm;exact⟨p,vs,r1,r2,r3,s.free r4⟩
theorem Z0{m:ag}:qK vs (L 0) (L m)=vs.take m:=by
 unfold qK;have e1:HT.eW vs.length 0 (L 0)=0:=by
  show(if 0<0 then(0+(vs.length:ae)).toNat else min (0:ae).toNat vs.length)=_;rw[ay<|by lia];exact Nat.zero_min _
 have e2:HT.eW vs.length vs.length (L m)=min m vs.length:=by
  show(if m<0 then(m+(vs.length:ae)).toNat else min (m:ae).toNat vs.length)=_;rw[ay<|by lia,kI]
 rw[e1,e2,PJ,Nat.sub_zero,List.take_eq_take_iff]
 lia
theorem nt_sl0{R:bE α}{xs:af α}(m:cY R)(h:NT C E (RL K R) (L xs) σ H te)(hh:NT C E fH (L j) σ H ta):NT C E (fG R) (L<|xs.take j) σ H<|B8 (zN K) te (rD (tC<|.int 0))<|rD ta:=λU Q s k=>by
 refine(h.at_ s).go λv H2 s2 q=>⟨_,J,(hh.at_<|s.trans s2).go λu2 H4 s4 q4=>⟨_,q4,?_⟩⟩;obtain⟨p,vs,rfl,hp,ha⟩:=cE m _ _ _ _ s4 q;refine⟨p,vs,J,hp,λl hn=>k.ok _ _ _ ((s2.trans s4).trans<|az.new hn) J ⟨l,_,J,bw,?_⟩⟩;rw[Z0];exact(ha.take j).imp λv x=>m _ _ _ _<|az.new hn
theorem nt_ints(h:NT C E (fG fH) (L l) σ H te):NT C E (fG RI) (L<|Rb49Neutral.ints l) σ H te:=h.conv λH v dW=>by obtain⟨p,vs,e,hp,ha⟩:=dW;exact⟨p,vs,e,hp,by
 have:∀{vs:af V}{l:af ag},cf _ vs l->cf (RI H) vs (Rb49Neutral.ints l):=λ{vs l}h=>by
  induction l generalizing vs with
  |nil=>cases vs with
   |nil=>trivial
   |cons _ _=>exact h.elim
  |cons x l ih=>cases vs with
   |nil=>exact h.elim
   |cons v vs=>exact⟨h.1,ih h.2⟩
 exact this ha⟩
theorem gE.i(s:gE a H H')(h:H a=L (.lst xs)):fO H H':=⟨⟨λb xs e=>s b _ e<|eJ e h (by intro z;cases z),λb o u e=>s b _ e<|eJ e h (by intro z;cases z)⟩,λb C dx fs e=>s b _ e<|eJ e h (by intro z;cases z)⟩
theorem r3l_of(h:RL K (RC K k) H v [x,y,z]):kL K k H v ⟨x,y,z⟩:=by
 obtain⟨p,vs,rfl,hp,ha⟩:=h;obtain⟨a,b,c,rfl,h1,h2,h3⟩:=L8 ha;exact⟨p,a,b,c,J,.inl hp,h1,h2,h3⟩
end
section
variable{P:cO}{w:World}{K:aq}{mg:ax->au aH}{base:b9}{d:Cs}{k:aB}
abbrev Wn(K:aq)(d:Cs)(k:aB):Sp:=oW K d k cg (λ_=>.sums) uj
theorem VE:bF ["self","found"] ["self"] (ba<|sS 11):=fs
theorem ok_sumsS{f:ak}{fd:c7}(F:bh K "sums" "Scene.sums" (sS 11) f fd)(X:SX P w K mg base d)(k:aB):aD P w K mg base (aQ P w d.F) 50 f fd ["self"]<|Wn K d k:=by
 obtain⟨f2,di,M2,b2,O2⟩:=X.ab;obtain⟨c3,e3⟩:=X.cSF;have T:=X.T;refine F.oc VE λH Q E hr h=>?_;obtain⟨a,pb,ps,W,t,r,rfl,hs,rfl,kk⟩:=h
 refine⟨_,aG (EH (tb:=λHc=>j7 (d_ (Jk K d.F d.K d.B d.S k) [] (λ_ _ H'=>Hc H')<|aU (c9 K (aw 0) "kind") (aU (c9 K (aw 0) "bodies")<|aU (c9 K (aw 0) "springs") b8))<|eI 1) J J J X.TK.sD J X.TK.sX
  (λHc pl=>aR<|bC 1 VE.nd (X.WX.c k hr EA (bG (bu<|O 0) (bu<|O 0) (bu<|O 0)))) λpl e=>aR (bp<|gr (bz<|dH J e3 (v:=.int (-5)) ⟨c3,J⟩)))
  (aR (bp (bO ve (gr<|bz a_)<|bW (O 0) T.cl M2 (O2 k) (hr.aV dc) b2 .nil aA (bz<|O 1)))),?_⟩
 have h1:eS K d k H (.ref a) W:=⟨a,pb,ps,J,hs⟩;have v0:∀{E:XK}{H2:Hp}{y:au V},az H H2->NT d.F E (eS K d k) (L W) [L<|.ref a,y] H2 (aw 0):=λs=>aj J fA<|fA.up s h1;have ol:=Bw.UO (k:=k) hs.ok.2.1 .sums;have kk:=λn l=>oQ (M:=d.F) (E:=E) (n:=n) (l:=l) hs kk;rw[Bw.st_sums] at ol kk;refine⟨λH'=>az H H'/\AB k {bodies:=W.bodies,springs:=W.springs}=ah,?_,λaS H'⟨s1,e1⟩_=>?_⟩
 ·have u_:NT d.F (λ_ _ H'=>az H H'/\AB k {bodies:=W.bodies,springs:=W.springs}=ah) (fG<|RC K k) (AB k {bodies:=W.bodies,springs:=W.springs}) [L<|.ref a,ah] H _:=cT (t:=L ((),W.bodies,W.springs,())) (f:=λx=>AB k {bodies:=x.2.1,springs:=x.2.2.1}) (nW (c:=λx=>ox x.2.1.length x.2.2.1/\x.2.1.length<=4096/\x.2.2.1.length<=8192) (aF aN (uY T (v0<|az.refl H)) (aF (cE cD) ((BA T (v0<|az.refl H)).cZ λ_ _ _ h=>h.1)<|aF (cE eO.m) (MI T (v0<|az.refl H)) bR)) λy e=>by cases e;exact hs.ok)
  refine u_ H _ sr ⟨λU u l s1 el q1=>?_,λH' s' e'=>⟨s',e'⟩⟩;rw[el] at ol kk;have ol:l.length<=28672:=ol;exact(kk 0 l J).gX s1<|(Bz fK (HK (v0 s1)<|aj (i:=1) J Mp ⟨EK q1,om⟩) (by rw[Bn];omega)).up s1
 ·rw[e1] at kk
  exact(kk (-5) [] J).gX s1<|(qV fK).up s1
abbrev Wc(K:aq)(d:Cs)(k:aB):Sp:=oW K d k cg (λ_=>.box) uj
theorem scBo:bF ["self"] ["self"] (ba<|sS 12):=fs
theorem ok_boxS{f:ak}{fd:c7}(F:bh K "box" "Scene.box" (sS 12) f fd)(X:SX P w K mg base d)(k:aB):aD P w K mg base (aQ P w d.F) 50 f fd ["self"]<|Wc K d k:=by
 obtain⟨f2,di,M2,b2,O2⟩:=X.ab;obtain⟨c3,e3⟩:=X.cNB;have T:=X.T;refine F.oc scBo λH Q E hr h=>?_;obtain⟨a,pb,ps,W,t,r,rfl,hs,rfl,kk⟩:=h
 refine⟨_,aG (dU (dD iY (jL oB J X.TC.bH pO<|bz (bu<|O 0)) a_<|cW _) (aR (bp<|gr (bz<|dH J e3 (v:=.int (-1)) ⟨c3,J⟩))) d7)
  (aR<|bp (bO ve (gr<|bz a_) (bW (O 0) T.cl M2 (O2 k) (hr.aV dc) b2 .nil aA<|bz (X.bx.c k hr aA<|bz (bu<|O 0))))),?_⟩
 have h1:eS K d k H (.ref a) W:=⟨a,pb,ps,J,hs⟩;have v0:∀{H2:Hp},az H H2->NT d.F E (eS K d k) (L W) [L<|.ref a] H2 (aw 0):=λs=>aj J fA<|fA.up s h1;have t1:NB (decide ((W.bodies.length:ae)=0)) [L<|.ref a] H _:=sZ<|j0 (g:=λi j=>decide (i=j)) (Ep T (v0<|az.refl H)) fK;refine iO t1 (λc U s1=>?_) λc U s1=>?_
 ·have c:(W.bodies.length:ae)=0:=dG c
  exact(oQ (M:=d.F) (E:=E) hs kk (Bw.st_box_n<|by lia)).gX s1<|(qV fK).up s1
 ·have c:=vd c
  have nb:NT d.F E (fG<|RC K k) _ [L<|.ref a] U _:=cT (t:=L (W.bodies,())) (f:=λx=>L<|Rb49.box k {bodies:=x.1}) (nW (c:=λx=>x.1≠[]/\bV k) (aF pZ (BA T<|v0 s1) bR) λy e=>by cases e;exact⟨λz=>by rw[show W.bodies=[] from z] at c;exact c J,hs.zk⟩);exact(oQ (M:=d.F) (E:=E) hs kk (Bw.st_box_s<|by lia)).gX s1<|(Bz fK (HK (v0 s1) (nb.conv λ_ _ h=>Vf (EK h) (by show 6<=30000;decide))) (by rw[Bn];show 6<=30000;decide)).up s1
abbrev Wm(K:aq)(d:Cs)(k:aB):Sp:=oW K d k (aE (RX k)<|aE RI cg) (λx=>.slow x.1 x.2.1) uj
theorem NG:bF ["self","bits","most","limit","found"] ["self","bits","most"] (ba<|sS 13):=fs
theorem ok_slowS{f:ak}{fd:c7}(F:bh K "slow" "Scene.slow" (sS 13) f fd)(X:SX P w K mg base d)(k:aB):aD P w K mg base (aQ P w d.F) 50 f fd ["self","bits","most"]<|Wm K d k:=by
 obtain⟨f1,bZ,M1,b1,O1⟩:=X.fb;obtain⟨c1,e1⟩:=X.cBN;obtain⟨c2,e2⟩:=X.Q5;obtain⟨c3,e3⟩:=X.cSF;obtain⟨c4,e4⟩:=X.cOR;have T:=X.T;refine F.oc NG λH Q E hr h=>?_;obtain⟨a,pb,ps,W,⟨x,n,_⟩,r,rfl,hs,ar25,kk⟩:=h;refine ar25.c2 λw2 w3 h2 h3=>?_
 refine⟨_,aG (dU (PW.pt (qr (dD lU (O 2) a_<|cW _)<|vA (dD vh (O 2) (dH J e2 (v:=.int 4096) ⟨c2,J⟩)<|cW _))) (aR (bp<|gr (bz<|dH J e4 (v:=.int (-2)) ⟨c4,J⟩))) d7)
  (aG (bC 3 NG.nd (bW (bu<|O 0) X.TK.cl M1 (O1 k) (hr.aV dc) b1 .nil aA (bz<|O 1)))
  (aG (dU (dD zG (O 3) nY<|cW _) (aR (bp<|gr (bz<|dH J e1 (v:=.int (-3)) ⟨c1,J⟩))) d7)
  (aG (EH (tb:=λHc=>j7 (d_ (Oy K d.F d.K d.B k) [] (λ_ _ H'=>Hc H')<|aU (c9 K (aw 0) "kind") (aU (c9 K (aw 0) "bodies")<|aU (aw 3) b8))<|eI 4) J J J X.TK.sD J X.TK.sX
    (λHc pl=>aR (bC 4 NG.nd<|X.sl.c k hr EA (bG (bu<|O 0) (bu<|O 0)<|O 3))) λpl e=>aR (bp<|gr (bz<|dH J e3 (v:=.int (-5)) ⟨c3,J⟩)))
  (aR (bp<|bO ve (gr (bz<|jL oB J X.TC.bH pO (bz<|O 4)))<|lX l_ (O 4) (gd a_) (gd<|O 2)))))),?_⟩
 have h1:eS K d k H (.ref a) W:=⟨a,pb,ps,J,hs⟩;have hk:=hs.zk;have h3:w3= .int n:=h3;subst h3;have h2:RX k H w2 x:=h2;have v2:∀{H2:Hp}{y z:au V},NT d.F E RI (L n) [L<|.ref a,L w2,L<|.int n,y,z] H2<|aw 2:=aj J il J;have v0:∀{E:XK}{H2:Hp}{y z:au V},az H H2->NT d.F E (eS K d k) (L W) [L<|.ref a,L w2,L<|.int n,y,z] H2 (aw 0):=λs=>aj J fA<|fA.up s h1;have t1:NB (decide (n<0)||decide (4096<n)) [L<|.ref a,L w2,L<|.int n,ah,ah] H _:=qS (sZ<|j0 (g:=λi j=>decide (i<j)) v2 fK) λ_=>sZ<|j0 (g:=λi j=>decide (j<i)) v2 fK;refine iO t1 (λc U s1=>?_) λc U s1=>?_
 ·exact(oQ (M:=d.F) (E:=E) hs kk (Bw.st_slow_r<|by simpa using c)).gX s1<|(qV fK).up s1
 have c:¬(n<0\/4096<n):=by
  intro z;rw[Ad] at c;exact z.elim (vd c.1)<|vd c.2
 refine j3 (MK (K:=K) (M:=d.F) (E:=E) (σ:=[L<|.ref a,L w2,L<|.int n,ah,ah]) (uY T<|v0 s1)<|aj (i:=1) J zr h2) λu H2 s2 q2=>?_;have dP:=s1.trans s2;by_cases hf:jH k x=ao
 ·have ef:oE k x=L x:=aK hf
  rw[ef] at q2;have t2:NB aM [L<|.ref a,L w2,L<|.int n,L u,ah] H2 _:=zu (C:=d.F) (E:=E) (aj (i:=3) J (λ_ _ _ _ _ h=>h)<|SR q2);refine iO t2 (λc=>nomatch c) λ_ H3 s3=>?_;have gL:=dP.trans s3;have rc:RC K k H3 u x:=aI.up s3 q2;have kk:=λn l=>oQ (M:=d.F) (E:=E) (n:=n) (l:=l) hs kk;rw[Bw.st_slow_i c hf,slowF_eq] at kk;refine⟨λH'=>az H3 H'/\zX k x W.bodies=ah,?_,λaS H'⟨s4,e4⟩_=>?_⟩
  ·have u_:NT d.F (λ_ _ H'=>az H3 H'/\zX k x W.bodies=ah) (fG fH) (zX k x W.bodies) [L<|.ref a,L w2,L<|.int n,L u,ah] H3 _:=cT (t:=L ((),W.bodies,x,())) (f:=λx=>zX k x.2.2.1 x.2.1) (aF aN (uY T<|v0 gL)<|aF pZ (BA T<|v0 gL)<|aF aI (aj (i:=3) J aI rc) bR)
   refine u_ H3 _ sr ⟨λH4 u4 l s4 el q4=>?_,λH' s' e'=>⟨s',e'⟩⟩;rw[el] at kk;have hJ:=gL.trans s4;have v4:NT d.F E (fG fH) (L l) [L<|.ref a,L w2,L<|.int n,L u,L u4] H4<|aw 4:=aj J (mono_ls iq) q4;have sl:=nt_ints (nt_sl0 iq (v4.cZ λ_ _ _=>EK (K:=K))<|aj (i:=2) J iq (Bu (n:=n)<|by lia));exact(kk (l.length:ae) (l.take n.toNat) J).gX hJ<|(Bz (Er (v4.cZ λ_ _ _=>EK (K:=K))) sl (by rw[Bn,kJ];grind)).up hJ
  ·rw[e4] at kk
   exact(kk (-5) [] J).gX (gL.trans s4) ((qV fK).up<|gL.trans s4)
 ·have ef:oE k x=ah:=ay hf
  rw[ef] at q2;have q2:u= .cu:=q2;subst q2;refine iO (a:=ao) (λH3 Q3 s3 k3=>⟨_,J,J,_,J,k3 H3 sr⟩) (λ_ H3 s3=>?_) (λc=>nomatch c);exact(oQ (M:=d.F) (E:=E) hs kk<|Bw.st_slow_n c hf).gX (dP.trans s3) ((qV fK).up<|dP.trans s3)
end
end BW
namespace BW
open PySem PySem.Spec PyProof.Rows L2
open Bw (bV cV bg cq bf fI placeOf tH)
section
variable{P:cO}{w:World}{K:aq}{mg:ax->au aH}{base:b9}{d:Cs}{k:aB}
theorem list3N{l:af ag}(h:l.length=3):∃a b c,l=[a,b,c]:=by
 obtain⟨a0,l0,rfl,g0⟩:=oC h;obtain⟨a1,l1,rfl,g1⟩:=oC g0;obtain⟨a2,l2,rfl,g2⟩:=oC g1
 cases l2 with
 |nil=>exact⟨a0,a1,a2,J⟩
 |cons x t=>cases g2
theorem WY{W:rY}(h:W.bodies.length<=4096)(i n:ag):((W.bodies.drop i).take n).length<=4096:=by
 rw[kJ,Cu];omega
structure tW(K:aq)(k:aB)(H H':Hp)(l:ak)(zs:af ag):Prop where
 sx:gE l H H'
 ex:∃vs,H' l=L (.lst vs)/\cf (RC K k H') vs zs
theorem tW.up(g:tW K k H H' l zs)(s:az H0 H)(hn:H0 l=ah):az H0 H':=g.sx.base s hn
theorem tW.more(g:tW K k H H' l zs)(s:az H' H2)(ht:cf (RC K k H2) vt ys):∃vs,H2 l=L (.lst vs)/\vs.length=zs.length/\tW K k H (aC H2 l (.lst<|vs++vt)) l (zs++ys):=by
 obtain⟨sx,vs,e,ha⟩:=g;have e2:=s _ _ e;have i:cw H2<|aC H2 l (.lst<|vs++vt):=cw.aC (by rw[e2];trivial);exact⟨vs,e2,ha.bH,λc o e n=>by rw[bJ n];exact s _ _<|sx _ _ e n,vs++vt,bw,(ha.imp λv x h=>dw _ _ _ _ (s.i.1.trans i) h).append (ht.imp λv x h=>dw.up i h)⟩
abbrev Wj(K:aq)(d:Cs)(k:aB):Sp:=oW K d k (aE RI (aE RI<|aE (F0 K k 3) cg)) (λx=>.points x.1 x.2.1 x.2.2.1) uj
theorem IM:bF ["self","first","n","row","r","found","body"] ["self","first","n","row"] (ba<|sS 14):=fs
theorem ok_points{f:ak}{fd:c7}(F:bh K "points" "Scene.points" (sS 14) f fd)(X:SX P w K mg base d)(k:aB):aD P w K mg base (aQ P w d.F) 50 f fd ["self","first","n","row"]<|Wj K d k:=by
 obtain⟨f1,bZ,M1,b1,O1⟩:=X.yZ;obtain⟨f2,di,M2,b2,O2⟩:=X.ab;obtain⟨f3,fv,M3,b3,O3⟩:=X.rn;obtain⟨c1,e1⟩:=X.cBN;obtain⟨c3,e3⟩:=X.cSF;obtain⟨c4,e4⟩:=X.cOR;have T:=X.T;refine F.oc IM λH Q E hr h=>?_;obtain⟨a,pb,ps,W,⟨i,n,l,_⟩,r,rfl,hs,ar26,kk⟩:=h;refine ar26.c3 λw2 w3 w4 h2 h3 uN=>?_;obtain⟨h4,DP⟩:=uN
 refine⟨_,aG (dU (vz (i7<|bW (O 0) T.cl M1 (O1 k) (hr.aV dc) b1 .nil aA (bK (O 1)<|O 2))) (aR (bp<|gr (bz<|dH J e4 (v:=.int (-2)) ⟨c4,J⟩))) d7)
  (aG (bC 4 IM.nd<|bW (O 0) T.cl M3 (O3 k) (hr.aV dc) b3 .nil aA (bz<|O 3))
  (aG (dU (dD zG (O 4) nY<|cW _) (aR (bp<|gr (bz<|dH J e1 (v:=.int (-3)) ⟨c1,J⟩))) d7)
  (aG (bC 5 IM.nd<|gr vm)
  (aG (EH (tb:=λHc=>WR (zf K (B8 (zN K) (c9 K (aw 0) "bodies") (rD<|aw 1) (rD<|bY (gu λi j=>.int<|i+j) (aw 1)<|aw 2))) (eI 6)<|WQ (WO K "list" (Nd K) (aw 5)<|aU (d_ (Jh K d.F d.K d.B k) [] (λ_ _ H'=>Hc H')<|aU (c9 K (aw 0) "kind") (aU (aw 6)<|aU (aw 4) b8)) b8)) J J J X.TK.sD J X.TK.sX
    (λHc pl=>aR (nZ ownTry J (jm (lX l_ (bu<|O 0) (gd<|O 1)<|gd (bO fC (O 1)<|O 2))) (eC 6 IM.nd)
      (aR (qp<|vp wx P' P_ Tz (O 5) (bz (X.pp.c k hr EA<|bG (bu<|O 0) (O 6)<|O 4))))))
    (λpl e=>aR (bp<|gr (bz<|dH J e3 (v:=.int (-5)) ⟨c3,J⟩))))
  (aR (bp (bO ve (gr<|bz a_)<|bW (O 0) T.cl M2 (O2 k) (hr.aV dc) b2 .nil aA (bz<|O 5)))))))),?_⟩
 have h1:eS K d k H (.ref a) W:=⟨a,pb,ps,J,hs⟩;have DP:l.length=3:=DP;have v0:∀{E:XK}{H2:Hp}{x y z:au V},az H H2->NT d.F E (eS K d k) (L W) [L<|.ref a,L w2,L w3,L w4,x,y,z] H2 (aw 0):=λs=>aj J fA<|fA.up s h1;have v1:∀{E:XK}{H2:Hp}{x y z:au V},NT d.F E RI (L i) [L<|.ref a,L w2,L w3,L w4,x,y,z] H2<|aw 1:=aj J il h2;have v2:∀{E:XK}{H2:Hp}{x y z:au V},NT d.F E RI (L n) [L<|.ref a,L w2,L w3,L w4,x,y,z] H2<|aw 2:=aj J il h3;have t1:NB (!fI W i n) [L<|.ref a,L w2,L w3,L w4,ah,ah,ah] H _:=xm (qT<|HR (E:=E) (v0<|az.refl H) v1 v2);refine iO t1 (λc U s1=>?_) λc U s1=>?_
 ·exact(oQ (M:=d.F) (E:=E) hs kk (Bw.st_points_r<|by simpa using c)).gX s1<|(qV fK).up s1
 have c:fI W i n=ao:=by simpa using c
 refine j3 (Et (E:=E) (v0 s1) (aj (i:=3) J xl<|xl.up s1 h4)) λu H2 s2 q2=>?_;have dP:=s1.trans s2;sleep 3;obtain⟨x,y,z,rfl⟩:=list3N DP;sleep 4;rcases HZ q2 with⟨hf,rfl⟩|⟨hf,q3,hN⟩
 ·refine iO (a:=ao) (λH3 Q3 s3 k3=>⟨_,J,J,_,J,k3 H3 sr⟩) (λ_ H3 s3=>?_) (λc=>nomatch c)
  exact(oQ (M:=d.F) (E:=E) hs kk (Bw.st_points_n c<|by simpa using hf)).gX (dP.trans s3) ((qV fK).up<|dP.trans s3)
 ·have t2:NB aM [L<|.ref a,L w2,L w3,L w4,L u,ah,ah] H2 _:=zu (C:=d.F) (E:=E)<|aj (i:=4) J (λ_ _ _ _ _ h=>h) hN
  refine iO t2 (λc=>nomatch c) λ_ H3 s3=>?_;have gL:=dP.trans s3;obtain⟨pr,vr,rfl,hpr,har,_⟩:=q3;have kk:=λn l=>oQ (M:=d.F) (E:=E) (n:=n) (l:=l) hs kk;rw[Bw.st_points_i c hf] at kk;have bl:=WY hs.ok.2.1 i.toNat n.toNat;refine⟨eM _,λl5 LK=>?_⟩;have s4:az H3 (aC H3 l5<|.lst []):=az.new LK;have hJ:=gL.trans s4;have n0:H l5=ah:=gL.free LK;refine⟨λH'=>az H H'/\bf (placeOf k ⟨x,y,z⟩) ((W.bodies.drop i.toNat).take n.toNat)=ah,?_,λaS H'⟨s5,e5⟩_=>?_⟩
  ·refine(MQ (E:=λ_ _ H'=>az H H'/\bf (placeOf k ⟨x,y,z⟩) ((W.bodies.drop i.toNat).take n.toNat)=ah) (σ:=[L<|.ref a,L w2,L w3,L w4,L<|.ref pr,L<|.ref l5,ah]) T (v0 hJ) v1 v2 c).go λv H5 s5⟨q,vq,eq,hq,ha,DQ⟩=>?_
   subst eq;generalize yZ:(W.bodies.drop i.toNat).take n.toNat=bs at*;have md:=hJ.trans s5;have e5:H5 l5=L (.lst []):=s5 _ _ bw;have MA:q≠l5:=λz=>by rw[z,bw] at DQ;cases DQ
   refine⟨q,J,⟨_,SqL.of hq⟩,?_⟩;refine AY (K:=K) (xs:=vq) (λj aS H'=>E2 λ(x6:au V)(zs:af dR)=>A3 (aS=[L<|.ref a,L w2,L w3,L w4,L<|.ref pr,L<|.ref l5,x6]) (tW K k H5 H' l5<|zs.flatMap ow)<|bf (placeOf k ⟨x,y,z⟩) (bs.take j)=L zs)
    ⟨ah,[],J,⟨λc o e _=>e,[],e5,ck⟩,by rw[m9];rfl⟩ (λj aS H' _ ju=>by obtain⟨_,_,_,g,_⟩:=ju;exact SqL.of<|g.sx _ _ hq MA) (λj yv aS H' hy I=>?_) λaS H' I=>?_
   ·obtain⟨x6,zs,rfl,g,ez⟩:=I
    sleep 3;obtain⟨b,hb,rb⟩:=ha.get hy;sleep 4;have i5:fO H5 H':=g.sx.i e5;have tJ:az H H':=g.up md n0;have sO:=s3 _ _ hpr;have rr':kL K k H' (.ref pr) ⟨x,y,z⟩:=r3l_of ⟨pr,vr,J,SqL.of (g.sx _ _ ((s4.trans s5) _ _ sO)<|dy sO LK),har.imp λv x h=>dw _ _ _ _ (((s3.trans s4).trans s5).i.1.trans i5.1) h⟩;refine⟨_,J,.inl ⟨J,_,SqL.of g.ex.choose_spec.1⟩,?_⟩;have u_:NT d.F (λ_ _ H'=>az H H'/\bf (placeOf k ⟨x,y,z⟩) bs=ah) (R3 K k) (placeOf k ⟨x,y,z⟩ b) [L<|.ref a,L w2,L w3,L w4,L<|.ref pr,L<|.ref l5,L yv] H' _:=cT (t:=L ((),b,(⟨x,y,z⟩:dR),())) (f:=λx=>(pC k x.2.1.turn x.2.2.1).bind λa=>iZ k x.2.1.at_ a) (aF aN (uY T<|v0 tJ)<|aF cD (aj (i:=6) J cD<|uS.up i5 rb)<|aF nV (aj (i:=4) J nV rr') bR);refine u_ H' _ sr ⟨λH6 u6 p s6 ep q6=>?_,λH6 s6 e6=>⟨tJ.trans s6,Bw.IY hb e6⟩⟩;obtain⟨tp,vt,e7,ht,hv⟩:=qt q6;subst e7;sleep 3;obtain⟨vs,ev,lv,g2⟩:=g.more s6 hv;sleep 4;have lj:zs.length<=bs.length:=by rw[Bw.iQ ez,kJ];lia
    refine⟨l5,tp,vs,vt,J,J,ev,ht,?_,_,zs++[p],J,?_,?_⟩
    ·rw[lv,Bw.OX,hv.bH]
     show 3*zs.length+3<=bI;have:(20000:ag)<=bI:=by decide
     lia
    ·rw[X6]
     show tW K k H5 _ l5<|zs.flatMap ow++(p.list++[]);rw[pj];exact g2
    ·rw[BX hb,ez,ep]
     rfl
   ·obtain⟨x6,zs,rfl,g,ez⟩:=I
    have dJ:vq.length=bs.length:=ha.bH;rw[dJ,mi] at ez;rw[ez] at kk;have tJ:az H H':=g.up md n0;obtain⟨vs,ev,hv⟩:=g.ex;have lz:(zs.flatMap ow).length<=28672:=by rw[Bw.OX,Bw.iQ ez];lia
    exact(kk 0 (zs.flatMap ow) J).gX tJ<|(Bz fK (HK (v0 tJ)<|aj (i:=5) J Mp ⟨⟨l5,vs,J,SqL.of ev,hv⟩,om⟩) (by rw[Bn];omega)).up tJ
  ·rw[e5] at kk
   exact(kk (-5) [] J).gX s5<|(qV fK).up s5
end
end BW
namespace BW
open PySem PySem.Spec PyProof.Rows L2
open Bw (bV cV bg cq bf fI tH)
section
variable{P:cO}{w:World}{K:aq}{mg:ax->au aH}{base:b9}{d:Cs}{k:aB}
theorem Ef:kW "nearest_bits":=p_ _ dk
theorem nt_near(hk:bV k)(h0:NT d.F E (RK d.K j) (L ()) σ H te)(h1:NT d.F E (RC K k) (L x) σ H t1):NT d.F E RI (L (Ky k j x:ag)) σ H (eE d.K "nearest_bits" (Om K d.F d.K k j) [] E te<|aU t1 b8):=λU Q s kk=>
 (h0.at_ s).go λv H2 s2 q=>by
   sleep 3;obtain⟨a,dx,fs,e1,e2,e3⟩:=vD Ef.1 Ef.2.1 Ef.2.2.1 Ef.2.2.2.1 Ef.2.2.2.2 q;sleep 4;exact⟨a,dx,fs,e1,e2,e3,(h1.at_<|s.trans s2).go λu H3 s3 q3=>⟨((),x,()),⟨⟨v,_,J,aN.up s3 q,u,_,J,q3,J⟩,hk⟩,kk.at_<|s2.trans s3⟩⟩
abbrev Wf(K:aq)(d:Cs)(k:aB):Sp:=oW K d k (aE RI (aE RI<|aE (RK d.K<|C5 k) cg)) (λx=>.frame x.1 x.2.1) uj
theorem EW:bF ["self","first","n","other","found","body","x"] ["self","first","n","other"] (ba<|sS 15):=fs
theorem ok_frame{f:ak}{fd:c7}(F:bh K "frame" "Scene.frame" (sS 15) f fd)(X:SX P w K mg base d)(k:aB):aD P w K mg base (aQ P w d.F) 50 f fd ["self","first","n","other"]<|Wf K d k:=by
 obtain⟨f1,bZ,M1,b1,O1⟩:=X.yZ;obtain⟨f2,di,M2,b2,O2⟩:=X.nb k;obtain⟨c4,e4⟩:=X.cOR;have T:=X.T;refine F.oc EW λH Q E hr h=>?_;obtain⟨a,pb,ps,W,⟨i,n,_,_⟩,r,rfl,hs,ar27,kk⟩:=h;refine ar27.c3 λw2 w3 w4 h2 h3 h4=>?_
 refine⟨_,aG (dU (vz (i7<|bW (O 0) T.cl M1 (O1 k) (hr.aV dc) b1 .nil aA (bK (O 1)<|O 2))) (aR (bp<|gr (bz<|dH J e4 (v:=.int (-2)) ⟨c4,J⟩))) d7)
  (aG (bC 4 EW.nd<|gr vm)
  (aG (nZ mI J (jm (lX l_ (bu<|O 0) (gd<|O 1)<|gd (bO fC (O 1)<|O 2))) (eC 5 EW.nd)
    (aR<|qp (vp wx P' P_ Tz (O 4)<|bz (bO xD (bu<|O 5) (bu<|O 5)))))
  (aR<|bp (bO ve (gr<|bz a_) (oM (own:=[("x",6)]) J J J jZ J EW.nd (jm<|O 4) bk (λ_ _ _ _ _=>eC 6 EW.nd) (λ_ _ _ _ _=>jo) λ_ _ _ _ _=>bW (O 3) X.TK.cl M2 (O2<|C5 k) (hr.aV dc) b2 .nil j1 (bz<|O 6)))))),?_⟩
 have h1:eS K d k H (.ref a) W:=⟨a,pb,ps,J,hs⟩;have hk:=hs.zk;have v0:∀{H2:Hp}{x y z:au V},az H H2->NT d.F E (eS K d k) (L W) [L<|.ref a,L w2,L w3,L w4,x,y,z] H2 (aw 0):=λs=>aj J fA<|fA.up s h1;have v1:∀{H2:Hp}{x y z:au V},NT d.F E RI (L i) [L<|.ref a,L w2,L w3,L w4,x,y,z] H2<|aw 1:=aj J il h2;have v2:∀{H2:Hp}{x y z:au V},NT d.F E RI (L n) [L<|.ref a,L w2,L w3,L w4,x,y,z] H2<|aw 2:=aj J il h3;have t1:NB (!fI W i n) [L<|.ref a,L w2,L w3,L w4,ah,ah,ah] H _:=xm (qT<|HR (v0<|az.refl H) v1 v2);refine iO t1 (λc U s1=>?_) λc U s1=>?_
 ·exact(oQ (M:=d.F) (E:=E) hs kk (Bw.st_frame_r<|by simpa using c)).gX s1<|(qV fK).up s1
 have c:fI W i n=ao:=by simpa using c
 have kk:=oQ (M:=d.F) (E:=E) hs kk<|Bw.st_frame_s c;have bl:=WY hs.ok.2.1 i.toNat n.toNat;refine⟨eM _,λl4 G9=>?_⟩;have s4:az U (aC U l4<|.lst []):=az.new G9;have hJ:=s1.trans s4;have n0:H l4=ah:=s1.free G9;refine(MQ (E:=E) T (v0 hJ) v1 v2 c).go λv H5 s5⟨q,vq,eq,hq,ha,DQ⟩=>?_;subst eq;generalize yZ:(W.bodies.drop i.toNat).take n.toNat=bs at*;have md:=hJ.trans s5;have e5:H5 l4=L (.lst []):=s5 _ _ bw;have MA:q≠l4:=λz=>by rw[z,bw] at DQ;cases DQ
 refine⟨q,J,⟨_,SqL.of hq⟩,?_⟩;refine AY (K:=K) (xs:=vq) (λj aS H'=>∃(x5:au V),aS=[L<|.ref a,L w2,L w3,L w4,L<|.ref l4,x5,ah]/\tW K k H5 H' l4 ((bs.take j).flatMap tH))
  ⟨ah,J,λc o e _=>e,[],e5,by rw[m9];trivial⟩ (λj aS H' _ gw=>by obtain⟨_,_,g⟩:=gw;exact SqL.of<|g.sx _ _ hq MA) (λj yv aS H' hy I=>?_) λaS H' I=>?_
 ·obtain⟨x5,rfl,g⟩:=I
  obtain⟨b,hb,rb⟩:=ha.get hy;have i5:fO H5 H':=g.sx.i e5;refine⟨_,J,.inl ⟨J,_,SqL.of g.ex.choose_spec.1⟩,?_⟩;have vb:NT d.F E (cp K d.B k) (L b) [L<|.ref a,L w2,L w3,L w4,L<|.ref l4,L yv,ah] H'<|aw 5:=aj J cD<|uS.up i5 rb;refine(xu aI ((zx X.TB vb).conv λ_ _=>qt) ((xt X.TB vb).conv λ_ _=>Vm) (by simp[ow]) (by simp[YS]) (by show 3+4<=bI;decide)).go λu6 H6 s6 q6=>?_;obtain⟨tp,vt,e7,ht,hv⟩:=q6;subst e7;sleep 3;obtain⟨vs,ev,lv,g2⟩:=g.more s6 hv;sleep 4;refine⟨l4,tp,vs,vt,J,J,ev,ht,?_,_,J,?_⟩
  ·rw[lv,Bw.NW,hv.bH,kJ]
   show 7*min j bs.length+7<=bI;have:(30000:ag)<=bI:=by decide
   lia
  ·rw[Bw.take_snoc hb,X6]
   show tW K k H5 _ l4<|(bs.take j).flatMap tH++(tH b++[]);rw[pj];exact g2
 ·obtain⟨x5,rfl,g⟩:=I
  have dJ:vq.length=bs.length:=ha.bH;rw[dJ,mi] at g;have tJ:az H H':=g.up md n0;obtain⟨vs,ev,hv⟩:=g.ex;have lz:(bs.flatMap tH).length<=28672:=by rw[Bw.NW];lia
  have nl:NT d.F E (fG RI) (L (Rb49Neutral.ints<|(bs.flatMap tH).map (Ky k<|C5 k))) [L<|.ref a,L w2,L w3,L w4,L<|.ref l4,x5,ah] H' _:=(HU (K:=K) (i:=6) (vs:=[6]) (R:=RI) (R':=RC K k) (λ_ _ _ _ _ _ _ h=>h) il aI (aj (i:=4) J (cE aI) ⟨l4,vs,J,SqL.of ev,hv⟩) (dN lz dc) (λ_=>J) λH2 v y s _ r=>nt_near hk (aj (i:=3) J aN<|aN _ _ _ _ (tJ.trans s) h4)<|aj (i:=6) J aI r).eq (by rw[Bw.l9];unfold Rb49Neutral.ints;rw[PN];rfl);exact kk.gX tJ<|(Bz fK nl (by rw[Bn,ie];lia)).up tJ
inductive N'(K:aq)(d:Cs)(k:aB)(vs:af V)(H:Hp)(Q:VK)(lu:XK):Prop
 |mk:∀(Hb:Hp)(p dx:ak)(v:V),vs=[.ref p,v]->H p=L (.ins d.C dx [])->az Hb H->Hb p=ah->RK d.K k Hb v ()->(∀H' pb ps,az Hb H'->Hb pb=ah->Hb ps=ah->eN K d k H' p pb ps {}->Q .cu H')->N' K d k vs H Q lu
theorem scCI:bF ["self","kind"] ["self","kind"] (ba<|sS 0):=fs
theorem ok_cinit(F:bh K "__init__" "Scene.__init__" (sS 0) f fd)(T:Tx K mg d.C "Scene" oz)(k:aB):aD P w K mg base (aQ P w d.F) 10 f fd ["self","kind"]<|N' K d k:=by
 refine F.qi scCI (λvs H Q E h=>?_) λcj A bA s H vs Q E hr h=>?_
 ·obtain⟨Hb,p,dx,v,rfl,_⟩:=h
  rfl
 ·obtain⟨Hb,p,dx,v,rfl,hp,sb,hn,h1,kk⟩:=h
  refine⟨_,aG (dM (O 0) (O 1) J) (aG (dM (O 0) (gr vm) J)<|aG (dM (O 0) (gr vm) J) (aR<|dM (O 0) nY J)),?_⟩;refine⟨_,J,_,J,p,d.C,dx,_,J,hp,T.cl,T.na _ dk,(by decide),?_⟩;refine⟨eM _,λl1 qO=>⟨_,J,p,d.C,dx,aY "kind" v [],J,?_,T.cl,T.na _ dk,(by show 1<1000;decide),?_⟩⟩
  ·rw[bJ λz=>by rw[<-z,bw] at qO;cases qO];exact bw
  have n1:l1≠p:=λz=>by rw[z,bw] at qO;cases qO
  have b1:az Hb<|aC (aC H p (.ins d.C dx<|aY "kind" v [])) l1<|.lst []:=λc o e=>by
   rw[bJ<|dy (sb _ _ e) (by rw[bJ n1] at qO;exact qO),bJ<|dy e hn];exact sb _ _ e
  refine⟨eM _,λl2 ij=>⟨_,J,p,d.C,dx,aY "bodies" (.ref l1)<|aY "kind" v [],J,?_,T.cl,T.na _ dk,(by show 2<1000;decide),?_⟩⟩
  ·rw[bJ λz=>by rw[<-z,bw] at ij;cases ij];exact bw
  have n2:l2≠p:=λz=>by rw[z,bw] at ij;cases ij
  have TF:l1≠l2:=λz=>by rw[<-z,bJ n1,bw] at ij;cases ij
  refine⟨_,J,p,d.C,dx,_,J,bw,T.cl,T.na _ dk,(by show 3<1000;decide),?_⟩;have e2:=by rw[bJ n2] at ij;exact ij
  have bb:az Hb<|aC (aC (aC (aC (aC (aC H p<|.ins d.C dx _) l1<|.lst []) p<|.ins d.C dx (aY "bodies" (.ref l1)<|aY "kind" v [])) l2<|.lst []) p (.ins d.C dx<|aY "springs" (.ref l2) (aY "bodies" (.ref l1)<|aY "kind" v []))) p (.ins d.C dx<|i9 v (.ref l1) (.ref l2) .cu):=λc o e=>by
   have np:=dy e hn;rw[bJ np,bJ np,bJ<|dy (b1 _ _ e) e2,bJ np];exact b1 _ _ e
  have h0:=by rw[bJ n1] at qO;exact qO
  refine kk _ l1 l2 bb (sb.free h0) (b1.free e2) ⟨dx,v,.cu,[],[],bw,aN.up bb h1,.inl ⟨J,J⟩,?_,ck,?_,ck,TF,(λ_ h=>nomatch h),dc,dc⟩
  ·rw[bJ n1,bJ n1,bJ TF,bJ n1,bw]
  ·rw[bJ n2,bJ n2,bw]
end
end BW
namespace BW
open PySem PySem.Spec PyProof.Rows L2
open Bw (bV fk NS gP eV)
open Rb49Neutral (kindOf nats)
structure Pl where
 ds:ak
 ra:ak
 la:ak
 g:ak
 calls:af ae
 gv:af V
 aW:af (hU×V)
 A:ae->ak
 B:ae->ak
 S:ae->ak
structure fX(K:aq)(d:Cs)(p:Pl)(H:Hp)(n:ag)(s:NS):Prop where
 rd:wI K d H p.ra p.la p.calls n
 gl:H p.g=L (.lst p.gv)
 dk:H p.ds=L (.dK p.aW)
 sc:∀o W,s o=L W->fF p.aW (eU o)=L (.ref<|p.A o)/\eN K d (kindOf o) H (p.A o) (p.B o) (p.S o) W/\p.B o≠p.g/\p.S o≠p.g
 ap:∀o j W W',s o=L W->s j=L W'->o≠j->p.A o≠p.A j/\p.B o≠p.B j/\p.S o≠p.S j/\p.B o≠p.S j
def JO(K:aq)(d:Cs)(p:Pl)(s:NS)(o:ae)(q:F4)(t:af ae)(Q:VK):Prop:=∀H' v aW A B S n,aW.length<=p.aW.length+1->fX K d {p with aW:=aW,A:=A,B:=B,S:=S} H' n (gP s o q).1->p.calls.drop n=t->(∃a,v= .ref a/\a≠p.g/\H' a=L (.lst<|(gP s o q).2.map V.int))->Q v H'
structure px(d:Cs):Prop where
 k:d.K≠d.R
 b:d.B≠d.R
 s:d.S≠d.R
 c:d.C≠d.R
 kc:d.K≠d.C
 bc:d.B≠d.C
 sc:d.S≠d.C
theorem eN.AL{K:aq}(h:eN K d k H a pb ps W):(∃dx fs,H a=L (.ins d.C dx fs))/\(∃vs,H pb=L (.lst vs))/\(∃vs,H ps=L (.lst vs))/\pb≠ps:=by
 obtain⟨dx,vk,vw,vb,vs,h1,h2,h3,h4,h5,h6,h7,h8⟩:=h;exact⟨⟨dx,_,h1⟩,⟨vb,h4⟩,⟨vs,h6⟩,h8.1⟩
section
variable{K:aq}{d:Cs}{p:Pl}{H H':Hp}{n m:ag}{s:NS}{o:ae}{W W':rY}{Q:VK}{E:XK}{σ:L2.St}{q:F4}{r t l:af ae}{x:ae}
theorem fX.same(h:fX K d p H n s)(e:az H H'):fX K d p H' n s:=⟨⟨⟨h.rd.1.choose,e _ _ h.rd.1.choose_spec⟩,h.rd.2.1.same e.i.1,h.rd.2.2⟩,e _ _ h.gl,e _ _ h.dk,λo W hs=>⟨(h.sc o W hs).1,(h.sc o W hs).2.1.same e,(h.sc o W hs).2.2⟩,h.ap⟩
theorem fX.Vb(N:px d)(h:fX K d p H n s)(sx:gE p.ra H H')(rd:wI K d H' p.ra p.la p.calls m):fX K d p H' m s:=by
 obtain⟨dx,hr⟩:=h.rd.1;have ins:∀D,D≠d.R-> ∀b e f,H b=L (.ins D e f)->H' b=L (.ins D e f):=λD nD b e f z=>sx _ _ z<|eJ z hr λw=>by cases w;exact nD J
 refine⟨rd,sx _ _ h.gl<|eJ h.gl hr (by intro z;cases z),sx _ _ h.dk<|eJ h.dk hr (by intro z;cases z),λo W hs=>?_,h.ap⟩;obtain⟨a1,a2,a3⟩:=h.sc o W hs;sleep 3;obtain⟨⟨pQ,fs,b1⟩,⟨v1,b2⟩,⟨v2,b3⟩,_⟩:=a2.AL;sleep 4;have nA:=eJ b1 hr λw=>by injection w with e1;exact N.c e1
 have nB:=eJ b2 hr (by intro z;cases z);have nS:=eJ b3 hr (by intro z;cases z);exact⟨a1,a2.Dr ⟨sx.t hr,ins _ N.k,ins _ N.b,ins _ N.s⟩ (λ_ z=>sx _ _ z nA) (λ_ z=>sx _ _ z nB) λ_ z=>sx _ _ z nS,a3⟩
theorem fX.call(N:px d)(h:fX K d p H n s)(hs:s o=L W)(kp:Kept H H' (p.A o) (p.B o) (p.S o) pb ps)(sc:eN K d (kindOf o) H' (p.A o) pb ps W'):fX K d {p with B:=λj=>if j=o then pb else p.B j,S:=λj=>if j=o then ps else p.S j} H' n λj=>if j=o then L W' else s j:=by
 sleep 3;obtain⟨a1,a2,a3,a4⟩:=h.sc o W hs;sleep 4;sleep 3;obtain⟨⟨pQ,fs,b1⟩,⟨v1,b2⟩,⟨v2,b3⟩,_⟩:=a2.AL;sleep 4;have sE:∀c u,H c=L u->(∀dx fs,u≠ .ins d.C dx fs)->(∀v,u≠ .lst v)->H' c=L u:=λc u e n1 n2=>kp.same c u e (eJ e b1<|n1 _ _) (eJ e b2<|n2 _) (eJ e b3<|n2 _);have st:cw H H':=⟨λb xs e=>sE b _ e (by intro _ _ z;cases z) (by intro _ z;cases z),λb o u e=>sE b _ e (by intro _ _ z;cases z) (by intro _ z;cases z)⟩;have ins:∀D,D≠d.C-> ∀b e f,H b=L (.ins D e f)->H' b=L (.ins D e f):=λD nD b e f z=>sE b _ z (λ_ _ w=>by cases w;exact nD J) (by intro _ w;cases w);obtain⟨dx,hr⟩:=h.rd.1;have other:∀j V,s j=L V->j≠o->(p.A j≠p.A o/\p.B j≠p.B o/\p.S j≠p.S o/\p.B j≠p.S o/\p.S j≠p.B o)/\eN K d _ H' _ _ _ V/\(p.B j≠pb/\p.S j≠pb/\p.B j≠ps/\p.S j≠ps):=λj V hj ne=>by
  obtain⟨c1,c2,c3,c4⟩:=h.ap j o V W hj hs ne;have c5:=(h.ap o j W V hs hj<|dB ne).2.2.2;have q2:=(h.sc j V hj).2.1;sleep 3;obtain⟨⟨pQ,fs,e1⟩,⟨v1,e2⟩,⟨v2,e3⟩,_⟩:=q2.AL;sleep 4;refine⟨⟨c1,c2,c3,c4,dB c5⟩,q2.Dr ⟨st,ins _ N.kc,ins _ N.bc,ins _ N.sc⟩ (λ_ z=>kp.same _ _ z c1 (eJ e1 b2 (by intro z;cases z))<|eJ e1 b3 (by intro z;cases z)) (λ_ z=>kp.same _ _ z (eJ e2 b1 (by intro z;cases z)) c2 c4) λ_ z=>kp.same _ _ z (eJ e3 b1 (by intro z;cases z)) (dB c5) c3,?_⟩;rcases kp.b with rfl|kb
  ·rcases kp.s with rfl|ks
   ·exact⟨c2,dB c5,c4,c3⟩
   ·exact⟨c2,dB c5,dy e2 ks,dy e3 ks⟩
  ·rcases kp.s with rfl|ks
   ·exact⟨dy e2 kb,dy e3 kb,c4,c3⟩
   ·exact⟨dy e2 kb,dy e3 kb,dy e2 ks,dy e3 ks⟩
 refine⟨⟨⟨dx,sE _ _ hr (λ_ _ w=>by injection w with e1;exact N.c e1.symm) (by intro _ w;cases w)⟩,h.rd.2.1.same st,h.rd.2.2⟩,kp.same _ _ h.gl (eJ h.gl b1 (by intro z;cases z)) (dB a3)<|dB a4,sE _ _ h.dk (by intro _ _ z;cases z) (by intro _ z;cases z),λj V hj=>?_,λi j V V' hi hj ne=>?_⟩
 ·by_cases e:j=o
  ·subst e
   simp[aK] at hj
   cases hj
   simp[aK];refine⟨a1,sc,?_,?_⟩
   ·rcases kp.b with rfl|kb
    ·exact a3
    ·exact dB<|dy h.gl kb
   ·rcases kp.s with rfl|ks
    ·exact a4
    ·exact dB<|dy h.gl ks
  ·simp[ay e] at hj⊢
   exact⟨(h.sc j V hj).1,(other j V hj e).2.1,(h.sc j V hj).2.2⟩
 ·by_cases e1:i=o
  ·have e2:j≠o:=λz=>ne<|e1.trans z.symm
   subst e1;simp[ay e2] at hj;simp[aK,ay e2];obtain⟨f1,f2,f3⟩:=other j V' hj e2;exact⟨dB f1.1,dB f3.1,dB f3.2.2.2,dB f3.2.1⟩
  ·simp[ay e1] at hi
   by_cases e2:j=o
   ·subst e2
    simp[aK,ay e1];obtain⟨f1,f2,f3⟩:=other i V hi e1;exact⟨f1.1,f3.1,f3.2.2.2,f3.2.2.1⟩
   ·simp[ay e2] at hj
    simp[ay e1,ay e2];exact h.ap i j V V' hi hj ne
theorem T'(hs:s o=L W)(e:(cI (kindOf o) (L W) q).1=L W'):(gP s o q).1=λj=>if j=o then L W' else s j:=by
 unfold gP;rw[hs,e]
theorem T_(hs:s o=L W):(gP s o q).2=(cI (kindOf o) (L W) q).2.value::Rb49Neutral.ints (cI (kindOf o) (L W) q).2.out:=by
 unfold gP;rw[hs]
theorem DC(N:px d)(h:fX K d p H n s)(hs:s o=L W)(kk:JO K d p s o q t Q)(hd:p.calls.drop n=t):∀H' v gn jM W',(cI (kindOf o) (L W) q).1=L W'->Kept H H' (p.A o) (p.B o) (p.S o) gn jM->eN K d (kindOf o) H' (p.A o) gn jM W'->yp H H' v (cI (kindOf o) (L W) q).2->([v].length<=bI/\ ∀a,H' a=ah->Q (.ref a) (aC H' a<|.lst [v])):=λH' v gn jM W' e kp sc ra=>by
 refine⟨(by show 1<=bI;decide),λa ha=>?_⟩;have hc:=h.call N hs kp sc;refine kk _ _ p.aW p.A _ _ n (Ke _) (by rw[T' hs e];exact hc.same<|az.new ha) hd ⟨a,J,dB<|dy hc.gl ha,?_⟩;rw[bw,T_ hs,ra.1,ra.2];rfl
theorem AW(N:px d)(h:fX K d p H n s)(hs:s o=L W)(kk:JO K d p s o q t Q)(hd:p.calls.drop n=t):∀H' v gn jM W',(cI (kindOf o) (L W) q).1=L W'->Kept H H' (p.A o) (p.B o) (p.S o) gn jM->eN K d (kindOf o) H' (p.A o) gn jM W'->uj H H' v (cI (kindOf o) (L W) q).2->Q v H':=λH' v gn jM W' e kp sc dm=>by
 obtain⟨a,ev,ha,hl⟩:=dm;have hc:=h.call N hs kp sc;exact kk _ _ p.aW p.A _ _ n (Ke _) (by rw[T' hs e];exact hc) hd ⟨a,ev,dB<|dy h.gl ha,by rw[hl,T_ hs]⟩
theorem BN(N:px d)(h:fX K d p H n s)(hd:p.calls.drop n=x::r)(hv:σ[i]? =L (L<|.ref p.ra))(k:∀H',fX K d p H' (n+1) s->p.calls.drop (n+1)=r->Q (.int x) H'):eE d.R "take" (B2 K d) [] E (aw i) b8 σ H Q:=by
 obtain⟨dx,h1⟩:=h.rd.1;obtain⟨e1,e2,e3⟩:=Bw.K6 hd;exact⟨_,hv,p.ra,dx,_,J,h1,Ir dk,p.ra,p.la,p.calls,n,x,J,h.rd,e1,λH' sx rd=>k H' (h.Vb N sx rd) e2⟩
theorem EJ(N:px d)(h:fX K d p H n s)(hd:p.calls.drop n=(l.length:ae)::(l++t))(hv:σ[i]? =L (L<|.ref p.ra))(k:∀H' a,fX K d p H' (n+1+l.length) s->p.calls.drop (n+1+l.length)=t->H' a=L (.lst<|l.map V.int)->Q (.ref a) H'):eE d.R "take_row" (Jm K d) [] E (aw i) b8 σ H Q:=by
 obtain⟨dx,h1⟩:=h.rd.1;obtain⟨e1,e2,e3⟩:=Bw.K6 hd;exact⟨_,hv,p.ra,dx,_,J,h1,Ir dk,p.ra,p.la,p.calls,n,l,t,J,h.rd,hd,λH' a sx rd _ ha=>k H' a (h.Vb N sx rd) (Bw.Rn (by lia) e2).1 ha⟩
theorem NN(N:px d)(h:fX K d p H n s)(hd:p.calls.drop n=o::r)(hs:s o=L W)(LV:σ[0]? =L (L<|.ref p.ds))(LW:σ[1]? =L (L<|.ref p.ra))(k:∀H',fX K d p H' (n+1) s->p.calls.drop (n+1)=r->Q (.ref<|p.A o) H'):Fl (aw 0) (eE d.R "take" (B2 K d) [] E (aw 1) b8) σ H Q:=⟨_,LV,BN N h hd LW λH' h' e=>by
                                                                                                                                                                                                                                                                 have g:=o9.k (k:=eU o) h'.dk;rw[(h'.sc o W hs).1] at g
                                                                                                                                                                                                                                                                 exact⟨p.ds,_,J,g,k H' h' e⟩⟩
theorem Vl:∀{l:af ae},(∀z∈l,eV o z)->cf (RX (kindOf o) H) (l.map V.int) (nats l)
 |[],_=>trivial
 |z::l,h=>⟨⟨by rw[Ck (h z iB).1],(h z iB).2⟩,Vl λy hy=>h y<|gD _ hy⟩
theorem EM(h:∀z∈l,eV o z)(hl:l.length<=4096)(ha:H a=L (.lst<|l.map V.int)):yr K (kindOf o) H (.ref a)<|nats l:=⟨⟨a,_,J,SqL.of ha,Vl h⟩,by rw[Bw.Bv];exact hl⟩
theorem xO{m:ax}(h:fX K d p H n s)(hs:s o=L W)(hm:HE m=ao)(hv:σ[i]? =L (L (.ref<|p.A o)))(k:ta σ H λvs H2=>sp (.ref (p.A o)::(vs++[])) H2 Q E):eE d.C m sp [] E (aw i) ta σ H Q:=by
 obtain⟨dx,vk,vw,vb,vs,h1,_⟩:=(h.sc o W hs).2.1;exact⟨_,hv,p.A o,dx,_,J,h1,E8 hm,k⟩
end
end BW
namespace BW
open PySem PySem.Spec PyProof.Rows L2
open Bw (bV fk NS gP eV)
open Rb49Neutral (kindOf nats)
section
variable{K:aq}{d:Cs}{p:Pl}{H H':Hp}{n m:ag}{s:NS}{o:ae}{W:rY}{E:XK}{σ:L2.St}{r:af ae}{x:ae}{u:TS}{D:Ends}
theorem xP(N:px d)(h:fX K d p H n s)(hd:p.calls.drop n=o::r)(hs:s o=L W)(LV:σ[0]? =L (L<|.ref p.ds))(LW:σ[1]? =L (L<|.ref p.ra))(k:∀H',fX K d p H' (n+1) s->p.calls.drop (n+1)=r->u D (σ.set i<|L (.ref<|p.A o)) H'):oY (j7 (Fl (aw 0)<|eE d.R "take" (B2 K d) [] E (aw 1) b8)<|eI i) u D σ H:=NN N h hd hs LV LW k
theorem n8(N:px d)(h:fX K d p H n s)(hd:p.calls.drop n=x::r)(hv:σ[i]? =L (L<|.ref p.ra))(k:∀H',fX K d p H' (n+1) s->p.calls.drop (n+1)=r->u D (σ.set j (L<|.int x)) H'):oY (j7 (eE d.R "take" (B2 K d) [] E (aw i) b8)<|eI j) u D σ H:=BN N h hd hv k
theorem putK_len{k:hU}:(i8 aW k v).length<=aW.length+1:=by
 unfold i8
 split
 ·rw[ie]
  exact Ke _
 ·rw[iT]
  exact dQ _
theorem fX.new(h:fX K d p H n s)(sm:az H H')(fa:H a=ah)(fb:H pb=ah)(fs:H ps=ah)(sc:eN K d (kindOf o) H' a pb ps {}):fX K d {p with aW:=i8 p.aW (eU o)<|.ref a,A:=λj=>if j=o then a else p.A j,B:=λj=>if j=o then pb else p.B j,S:=λj=>if j=o then ps else p.S j} (aC H' p.ds<|.dK (i8 p.aW (eU o)<|.ref a)) n λj=>if j=o then L {} else s j:=by
 have h':=h.same sm;have ev:∀j,fF (i8 p.aW (eU o) _) _=if j=o then L (.ref a) else fF p.aW _:=λj=>by
  rw[B9];by_cases e:j=o
  ·rw[aK e,aK<|by rw[e]]
  ·rw[ay e,ay λz=>e<|YW z]
 generalize i8 p.aW _ _=kv at*;have i:fO H' (aC H' p.ds<|.dK kv):=fO.aC (by rw[h'.dk];trivial);have sE:∀c u,H' c=L u->(∀v,u≠ .dK v)->aC H' p.ds (.dK kv) c=L u:=λc u e n1=>by rw[bJ (eJ e h'.dk<|n1 _)];exact e
 have Q8:∀{k:aB}{a pb ps:ak}{W:rY},eN K d k H' a pb ps W->eN K d k (aC H' p.ds _) a pb ps W:=λ{k a' gn jM W'}q=>by
  sleep 3;obtain⟨⟨pQ,fs,e1⟩,⟨v1,e2⟩,⟨v2,e3⟩,_⟩:=q.AL;sleep 4;exact q.Dr ⟨i.1,λ_ _ _=>i.2 _ _ _ _,λ_ _ _=>i.2 _ _ _ _,λ_ _ _=>i.2 _ _ _ _⟩ (λ_ z=>by rw[e1] at z;cases z;exact sE _ _ e1 (by intro _ z;cases z)) (λ_ z=>by rw[e2] at z;cases z;exact sE _ _ e2 (by intro _ z;cases z)) λ_ z=>by rw[e3] at z;cases z;exact sE _ _ e3 (by intro _ z;cases z)
 obtain⟨dx,hr⟩:=h'.rd.1;have other:∀j V,s j=L V->p.A j≠a/\p.B j≠pb/\p.S j≠pb/\p.B j≠ps/\p.S j≠ps:=λj V hj=>by
  sleep 3;obtain⟨⟨pQ,jI,e1⟩,⟨v1,e2⟩,⟨v2,e3⟩,_⟩:=(h.sc j V hj).2.1.AL;sleep 4;exact⟨dy e1 fa,dy e2 fb,dy e3 fb,dy e2 fs,dy e3 fs⟩
 refine⟨⟨⟨dx,i.2 _ _ _ _ hr⟩,h'.rd.2.1.same i.1,h'.rd.2.2⟩,sE _ _ h'.gl (by intro _ z;cases z),bw,λj V hj=>?_,λx j V V' hx hj ne=>?_⟩
 ·show fF kv _=_/\_
  rw[ev];by_cases e:j=o
  ·subst e
   simp[aK] at hj
   cases hj
   simp only[aK];exact⟨ck,Q8 sc,dB<|dy h.gl fb,dB<|dy h.gl fs⟩
  ·simp[ay e] at hj⊢
   exact⟨(h.sc j V hj).1,Q8 (h'.sc j V hj).2.1,(h.sc j V hj).2.2⟩
 ·by_cases e1:x=o
  ·have e2:j≠o:=λz=>ne<|e1.trans z.symm
   subst e1;simp[ay e2] at hj;simp[aK,ay e2];obtain⟨f1,f2,f3,f4,f5⟩:=other j V' hj;exact⟨dB f1,dB f2,dB f5,dB f3⟩
  ·simp[ay e1] at hx
   by_cases e2:j=o
   ·subst e2
    simp[aK,ay e1];obtain⟨f1,f2,f3,f4,f5⟩:=other x V hx;exact⟨f1,f2,f5,f4⟩
   ·simp[ay e2] at hj
    simp[ay e1,ay e2];exact h.ap x j V V' hx hj ne
end
section
variable(P:cO)(w:World)(K:aq)(mg:ax->au aH)(base:b9)(d:Cs)
inductive Fh(d:Cs)(f:ae->aB)(vs:af V)(H:Hp)(Q:VK)(E:XK):Prop
 |mk:∀o,vs=[.int o]->bQ d.F (RK d.K<|f o) H (L ()) Q E->Fh d f vs H Q E
inductive C9(l:ag)(x:ax)(ps:af ax)(sp:Sp):Prop
 |mk:∀(f:ak)(fd:c7),pq K d.R x f->Binds K fd ps []->aD P w K mg base (aQ P w d.F) l f fd ps sp->C9 l x ps sp
inductive FD(l:ag)(x:ax)(ps:af ax)(sp:Sp):Prop
 |mk:∀(f:ak)(fd:c7),mg x=L (.ref f)->jx K (.ref f)=ao->Binds K fd ps []->aD P w K mg base (aQ P w d.F) l f fd ps sp->FD l x ps sp
structure HX:Prop where
 TC:jB mg
 TK:jg K mg d.F d.K
 T:Tx K mg d.C "Scene" oz
 TR:Tx K mg d.R "Reader" BK
 N:px d
 ri:∃f fd,Mk K d.R f/\Binds K fd ["self","calls"] []/\aD P w K mg base (aQ P w d.F) 10 f fd ["self","calls"] (Ou K d)
 dn:C9 P w K mg base d 10 "is_done" ["self"] (Oa K d)
 tk:C9 P w K mg base d 10 "take" ["self"] (B2 K d)
 tr:C9 P w K mg base d 14 "take_row" ["self"] (Jm K d)
 ci:∃f fd,Mk K d.C f/\Binds K fd ["self","kind"] []/\ ∀k,aD P w K mg base (aQ P w d.F) 10 f fd ["self","kind"] (N' K d k)
 ko:FD P w K mg base d 10 "kind_of" ["o"] (Fh d kindOf)
 ot:FD P w K mg base d 10 "other_kind_than" ["o"] (Fh d λo=>C5<|kindOf o)
 ad:kM P w K mg base d 50 "add_body" ["self","row"] λk=>Wa K d k
 as:kM P w K mg base d 50 "add_spring" ["self","i","j","row"] λk=>Wb K d k
 sw:kM P w K mg base d 50 "set_walls" ["self","row"] λk=>Wo K d k
 se:kM P w K mg base d 50 "step" ["self","n","bits"] λk=>Wl K d k
 te:kM P w K mg base d 50 "tell" ["self","first","n","what"] λk=>Wr K d k
 pu:kM P w K mg base d 50 "put" ["self","first","what","row"] λk=>Wk K d k
 su:kM P w K mg base d 50 "sums" ["self"] λk=>Wn K d k
 bo:kM P w K mg base d 50 "box" ["self"] λk=>Wc K d k
 so:kM P w K mg base d 50 "slow" ["self","bits","most"] λk=>Wm K d k
 po:kM P w K mg base d 50 "points" ["self","first","n","row"] λk=>Wj K d k
 fr:kM P w K mg base d 50 "frame" ["self","first","n","other"] λk=>Wf K d k
end
inductive jN(K:aq)(d:Cs)(c:ae)(vs:af V)(H:Hp)(Q:VK)(lu:XK):Prop
 |mk:∀p n s t o q,vs=[.ref p.ds,.ref p.ra]->fX K d p H n s->fk c (p.calls.drop n) t o q->p.aW.length<=300->((c=0\/ ∃W,s o=L W))->JO K d p s o q t Q->jN K d c vs H Q lu
section
variable{P:cO}{w:World}{K:aq}{mg:ax->au aH}{base:b9}{d:Cs}
theorem scKo:bF ["o"] ["o"] (ba<|aO 99):=fs
theorem scOk:bF ["o"] ["o"] (ba<|aO 100):=fs
theorem ok_kindOf(F:bh K "kind_of" "kind_of" (aO 99) f fd)(m1:mg "make_doubles"=L (.ref f1))(k1:jx K (.ref f1)=ao)(b1:Binds K bZ [] [])(O1:aD P w K mg base (aQ P w d.F) 3 f1 bZ []<|xT d.F d.K Aw)(m2:mg "make_singles"=L (.ref f2))(k2:jx K (.ref f2)=ao)(b2:Binds K di [] [])(O2:aD P w K mg base (aQ P w d.F) 3 f2 di []<|xT d.F d.K Ay):aD P w K mg base (aQ P w d.F) 10 f fd ["o"]<|Fh d kindOf:=by
 refine F.qi scKo (λvs H Q E h=>?_) λcj A bA s H vs Q E hr h=>?_
 ·obtain⟨o,rfl,_⟩:=h
  rfl
 ·obtain⟨o,rfl,kk⟩:=h
  refine⟨_,aR (bp<|mJ (dD lU (O 0) a_<|cW _) (Ij O1 (hr.aV dc) J m1 k1 b1 .nil aA)<|Ij O2 (hr.aV dc) J m2 k2 b2 .nil aA),?_⟩;refine⟨_,J,_,_,J,J,_,J,d6 (λc=>?_) λc=>?_⟩
  ·have e:kindOf o=Aw:=aK<|dG c
   rw[e] at kk;exact kk.by<|cT bR
  ·have e:kindOf o=Ay:=ay λz=>c<|dF z
   rw[e] at kk;exact kk.by<|cT bR
theorem ok_otherKind(F:bh K "other_kind_than" "other_kind_than" (aO 100) f fd)(m1:mg "make_doubles"=L (.ref f1))(k1:jx K (.ref f1)=ao)(b1:Binds K bZ [] [])(O1:aD P w K mg base (aQ P w d.F) 3 f1 bZ []<|xT d.F d.K Aw)(m2:mg "make_singles"=L (.ref f2))(k2:jx K (.ref f2)=ao)(b2:Binds K di [] [])(O2:aD P w K mg base (aQ P w d.F) 3 f2 di []<|xT d.F d.K Ay):aD P w K mg base (aQ P w d.F) 10 f fd ["o"] (Fh d λo=>C5<|kindOf o):=by
 refine F.qi scOk (λvs H Q E h=>?_) λcj A bA s H vs Q E hr h=>?_
 ·obtain⟨o,rfl,_⟩:=h
  rfl
 ·obtain⟨o,rfl,kk⟩:=h
  have kk:bQ d.F (RK d.K<|C5 _) H _ Q E:=kk;refine⟨_,aR (bp<|mJ (dD lU (O 0) a_<|cW _) (Ij O2 (hr.aV dc) J m2 k2 b2 .nil aA)<|Ij O1 (hr.aV dc) J m1 k1 b1 .nil aA),?_⟩;refine⟨_,J,_,_,J,J,_,J,d6 (λc=>?_) λc=>?_⟩
  ·have e:kindOf o=Aw:=aK<|dG c
   rw[e] at kk;exact kk.by<|cT bR
  ·have e:kindOf o=Ay:=ay λz=>c<|dF z
   rw[e] at kk;exact kk.by<|cT bR
theorem Vy:bF ["scenes","reader","o"] ["scenes","reader"] (ba<|aO 101):=fs
instance:LS (jN K d c) 2:=⟨@λvs H Q E h=>by
 obtain⟨p,n,s,t,o,q,rfl,_⟩:=h
 rfl⟩
theorem ok_begin(F:bh K "begin" "begin" (aO 101) f fd)(X:HX P w K mg base d):aD P w K mg base (aQ P w d.F) 56 f fd ["scenes","reader"]<|jN K d 0:=by
 obtain⟨ft,fdt,Mt,bt,Ot⟩:=X.tk;obtain⟨f1,bZ,m1,k1,b1,O1⟩:=X.ko;obtain⟨f2,di,M2,b2,O2⟩:=X.ci;refine F.oc Vy λH Q E hr h=>?_;obtain⟨p,n,s,t,o,q,rfl,hh,ha,hm,_,kk⟩:=h;obtain⟨hd,ho,rfl⟩:=Bw.KJ ha
 refine⟨_,aG (bC 2 Vy.nd<|eu (O 1) X.TR.cl Mt Ot (hr.aV dc) bt .nil aA)
  (aG (U0 (lP hr) (O 0) (O 2) (oN M2 (O2<|kindOf o) (hr.aV dc) J X.T.m b2 .nil aA (bz<|cM O1 (hr.aV dc) J m1 k1 b1 .nil aA (bz<|O 2))) J)
  (aR<|bp (gr<|bz a_))),?_⟩
 refine n8 X.N hh hd J λU h1 e1=>?_;refine⟨_,J,o,J,λH2 v _ s2 _ rk=>?_,λ_ _ e=>nomatch e⟩;intro x dx n0 n1 n2;refine⟨H2,x,dx,v,J,bw,(az.new n1).trans (az.new<|by rw[bJ<|dB n2];exact n0),n0,rk,λH3 pb ps s3 fb fs sc=>⟨J,?_⟩⟩;have h2:=h1.same s2;have h3:=h2.new s3 n0 fb fs sc;refine⟨_,J,_,J,p.ds,_,J,Ae.k (k:=eU o) (s3 _ _ h2.dk)<|wq hm dc,(by decide),λa ha=>?_⟩;refine kk _ _ _ _ _ _ _ putK_len (h3.same<|az.new ha) e1 ⟨a,J,dB<|dy h3.gl ha,bw⟩
theorem Vz:bF ["scenes","reader","scene"] ["scenes","reader"] (ba<|aO 102):=fs
theorem ok_body(F:bh K "body" "body" (aO 102) f fd)(X:HX P w K mg base d):aD P w K mg base (aQ P w d.F) 56 f fd ["scenes","reader"]<|jN K d 1:=by
 obtain⟨ft,fdt,Mt,bt,Ot⟩:=X.tk;obtain⟨fr,fdr,Mr,br,Ow⟩:=X.tr;obtain⟨f1,bZ,M1,b1,O1⟩:=X.ad;refine F.oc Vz λH Q E hr h=>?_;obtain⟨p,n,s,t,o,q,rfl,hh,ha,hm,hW,kk⟩:=h;obtain⟨W,hs⟩:=hW.resolve_left dc;sleep 3;obtain⟨l,hd,hl,uI,rfl⟩:=Bw.Zl ha;sleep 4;have h20':20=(l.length:ae):=by rw[uI];rfl
 rw[h20'] at hd
 refine⟨_,aG (bC 2 Vz.nd<|oK (lP hr) (O 0) (eu (O 1) X.TR.cl Mt Ot (hr.aV dc) bt .nil aA) λ_ _=>J)
  (aR<|bp (gr<|bz (bW (O 2) X.T.cl M1 (O1<|kindOf o) (hr.aV dc) b1 .nil aA (bz<|eu (O 1) X.TR.cl Mr Ow (hr.aV dc) br .nil aA)))),?_⟩
 refine xP X.N hh hd hs J J λU h1 e1=>?_;refine xO h1 hs dk J (EJ X.N h1 e1 J λH2 a h2 e2 ha=>?_);exact⟨p.A o,p.B o,p.S o,W,(nats l,()),_,J,(h2.sc o W hs).2.1,⟨_,_,J,⟨EM hl (by lia) ha,by rw[Bw.Bv];exact uI⟩,J⟩,DC X.N h2 hs kk e2⟩
theorem IH:bF ["scenes","reader","scene","i","j"] ["scenes","reader"] (ba<|aO 103):=fs
theorem ok_spring(F:bh K "spring" "spring" (aO 103) f fd)(X:HX P w K mg base d):aD P w K mg base (aQ P w d.F) 56 f fd ["scenes","reader"]<|jN K d 2:=by
 obtain⟨ft,fdt,Mt,bt,Ot⟩:=X.tk;obtain⟨fr,fdr,Mr,br,Ow⟩:=X.tr;obtain⟨f1,bZ,M1,b1,O1⟩:=X.as;refine F.oc IH λH Q E hr h=>?_;obtain⟨p,n,s,t,o,q,rfl,hh,ha,hm,hW,kk⟩:=h;obtain⟨W,hs⟩:=hW.resolve_left dc;sleep 3;obtain⟨i,j,l,hd,hl,h9,rfl⟩:=Bw.Zo ha;sleep 4;have h9':9=(l.length:ae):=by rw[h9];rfl
 rw[h9'] at hd
 refine⟨_,aG (bC 2 IH.nd<|oK (lP hr) (O 0) (eu (O 1) X.TR.cl Mt Ot (hr.aV dc) bt .nil aA) λ_ _=>J)
  (aG (bC 3 IH.nd<|eu (O 1) X.TR.cl Mt Ot (hr.aV dc) bt .nil aA)
  (aG (bC 4 IH.nd<|eu (O 1) X.TR.cl Mt Ot (hr.aV dc) bt .nil aA)
  (aR<|bp (gr<|bz (bW (O 2) X.T.cl M1 (O1<|kindOf o) (hr.aV dc) b1 .nil aA (bG (O 3) (O 4)<|eu (O 1) X.TR.cl Mr Ow (hr.aV dc) br .nil aA)))))),?_⟩
 refine xP X.N hh hd hs J J λU h1 e1=>?_;refine n8 X.N h1 e1 J λH2 h2 e2=>?_;refine n8 X.N h2 e2 J λH3 h3 e3=>?_;refine xO h3 hs dk J ⟨_,J,_,J,EJ X.N h3 e3 J λH4 a h4 e4 ha=>?_⟩;exact⟨p.A o,p.B o,p.S o,W,(i,j,nats l,()),_,J,(h4.sc o W hs).2.1,⟨_,_,J,J,_,_,J,J,_,_,J,⟨EM hl (by lia) ha,by rw[Bw.Bv];exact h9⟩,J⟩,DC X.N h4 hs kk e4⟩
theorem VA:bF ["scenes","reader","scene"] ["scenes","reader"] (ba<|aO 104):=fs
theorem ok_walls(F:bh K "walls" "walls" (aO 104) f fd)(X:HX P w K mg base d):aD P w K mg base (aQ P w d.F) 56 f fd ["scenes","reader"]<|jN K d 3:=by
 obtain⟨ft,fdt,Mt,bt,Ot⟩:=X.tk;obtain⟨fr,fdr,Mr,br,Ow⟩:=X.tr;obtain⟨f1,bZ,M1,b1,O1⟩:=X.sw;refine F.oc VA λH Q E hr h=>?_;obtain⟨p,n,s,t,o,q,rfl,hh,ha,hm,hW,kk⟩:=h;obtain⟨W,hs⟩:=hW.resolve_left dc;sleep 3;obtain⟨l,hd,hl,h6,rfl⟩:=Bw.Zp ha;sleep 4;have h6':6=(l.length:ae):=by rw[h6];rfl
 rw[h6'] at hd
 refine⟨_,aG (bC 2 VA.nd<|oK (lP hr) (O 0) (eu (O 1) X.TR.cl Mt Ot (hr.aV dc) bt .nil aA) λ_ _=>J)
  (aR<|bp (gr<|bz (bW (O 2) X.T.cl M1 (O1<|kindOf o) (hr.aV dc) b1 .nil aA (bz<|eu (O 1) X.TR.cl Mr Ow (hr.aV dc) br .nil aA)))),?_⟩
 refine xP X.N hh hd hs J J λU h1 e1=>?_;refine xO h1 hs dk J (EJ X.N h1 e1 J λH2 a h2 e2 ha=>?_);exact⟨p.A o,p.B o,p.S o,W,(nats l,()),_,J,(h2.sc o W hs).2.1,⟨_,_,J,⟨EM hl (by lia) ha,by rw[Bw.Bv];exact h6⟩,J⟩,DC X.N h2 hs kk e2⟩
theorem Nz:bF ["scenes","reader","scene","n"] ["scenes","reader"] (ba<|aO 105):=fs
theorem QU(h:eV o z):RX (kindOf o) H (.int z) z.toNat:=⟨by rw[Ck h.1],h.2⟩
theorem ok_stepH(F:bh K "step" "step" (aO 105) f fd)(X:HX P w K mg base d):aD P w K mg base (aQ P w d.F) 56 f fd ["scenes","reader"]<|jN K d 4:=by
 obtain⟨ft,fdt,Mt,bt,Ot⟩:=X.tk;obtain⟨f1,bZ,M1,b1,O1⟩:=X.se;refine F.oc Nz λH Q E hr h=>?_;obtain⟨p,n,s,t,o,q,rfl,hh,ha,hm,hW,kk⟩:=h;obtain⟨W,hs⟩:=hW.resolve_left dc;sleep 3;obtain⟨i,z,hd,hz,rfl⟩:=Bw.Zr ha;sleep 4
 refine⟨_,aG (bC 2 Nz.nd<|oK (lP hr) (O 0) (eu (O 1) X.TR.cl Mt Ot (hr.aV dc) bt .nil aA) λ_ _=>J)
  (aG (bC 3 Nz.nd<|eu (O 1) X.TR.cl Mt Ot (hr.aV dc) bt .nil aA)
  (aR<|bp (gr<|bz (bW (O 2) X.T.cl M1 (O1<|kindOf o) (hr.aV dc) b1 .nil aA (bK (O 3)<|eu (O 1) X.TR.cl Mt Ot (hr.aV dc) bt .nil aA))))),?_⟩
 refine xP X.N hh hd hs J J λU h1 e1=>?_;refine n8 X.N h1 e1 J λH2 h2 e2=>?_;refine xO h2 hs dk J ⟨_,J,BN X.N h2 e2 J λH4 h4 e4=>?_⟩;exact⟨p.A o,p.B o,p.S o,W,(i,z.toNat,()),_,J,(h4.sc o W hs).2.1,⟨_,_,J,J,_,_,J,QU hz,J⟩,DC X.N h4 hs kk e4⟩
theorem II:bF ["scenes","reader","scene","first","n"] ["scenes","reader"] (ba<|aO 106):=fs
theorem ok_get(F:bh K "get" "get" (aO 106) f fd)(X:HX P w K mg base d):aD P w K mg base (aQ P w d.F) 56 f fd ["scenes","reader"]<|jN K d 5:=by
 obtain⟨ft,fdt,Mt,bt,Ot⟩:=X.tk;obtain⟨f1,bZ,M1,b1,O1⟩:=X.te;refine F.oc II λH Q E hr h=>?_;obtain⟨p,n,s,t,o,q,rfl,hh,ha,hm,hW,kk⟩:=h;obtain⟨W,hs⟩:=hW.resolve_left dc;sleep 3;obtain⟨i,j,z,hd,rfl⟩:=Bw.Zs ha;sleep 4
 refine⟨_,aG (bC 2 II.nd<|oK (lP hr) (O 0) (eu (O 1) X.TR.cl Mt Ot (hr.aV dc) bt .nil aA) λ_ _=>J)
  (aG (bC 3 II.nd<|eu (O 1) X.TR.cl Mt Ot (hr.aV dc) bt .nil aA)
  (aG (bC 4 II.nd<|eu (O 1) X.TR.cl Mt Ot (hr.aV dc) bt .nil aA)
  (aR<|bp (bW (O 2) X.T.cl M1 (O1<|kindOf o) (hr.aV dc) b1 .nil aA (bG (O 3) (O 4)<|eu (O 1) X.TR.cl Mt Ot (hr.aV dc) bt .nil aA))))),?_⟩
 refine xP X.N hh hd hs J J λU h1 e1=>?_;refine n8 X.N h1 e1 J λH2 h2 e2=>?_;refine n8 X.N h2 e2 J λH3 h3 e3=>?_;refine xO h3 hs dk J ⟨_,J,_,J,BN X.N h3 e3 J λH4 h4 e4=>?_⟩;exact⟨p.A o,p.B o,p.S o,W,(i,j,z,()),_,J,(h4.sc o W hs).2.1,⟨_,_,J,J,_,_,J,J,_,_,J,J,J⟩,AW X.N h4 hs kk e4⟩
theorem IJ:bF ["scenes","reader","scene","first","what"] ["scenes","reader"] (ba<|aO 107):=fs
theorem ok_putH(F:bh K "put" "put" (aO 107) f fd)(X:HX P w K mg base d):aD P w K mg base (aQ P w d.F) 56 f fd ["scenes","reader"]<|jN K d 6:=by
 obtain⟨ft,fdt,Mt,bt,Ot⟩:=X.tk;obtain⟨fr,fdr,Mr,br,Ow⟩:=X.tr;obtain⟨f1,bZ,M1,b1,O1⟩:=X.pu;refine F.oc IJ λH Q E hr h=>?_;obtain⟨p,n,s,t,o,q,rfl,hh,ha,hm,hW,kk⟩:=h;obtain⟨W,hs⟩:=hW.resolve_left dc;sleep 3;obtain⟨i,j,l,hd,hl,G9,rfl⟩:=Bw.Zt ha;sleep 4
 refine⟨_,aG (bC 2 IJ.nd<|oK (lP hr) (O 0) (eu (O 1) X.TR.cl Mt Ot (hr.aV dc) bt .nil aA) λ_ _=>J)
  (aG (bC 3 IJ.nd<|eu (O 1) X.TR.cl Mt Ot (hr.aV dc) bt .nil aA)
  (aG (bC 4 IJ.nd<|eu (O 1) X.TR.cl Mt Ot (hr.aV dc) bt .nil aA)
  (aR<|bp (gr<|bz (bW (O 2) X.T.cl M1 (O1<|kindOf o) (hr.aV dc) b1 .nil aA (bG (O 3) (O 4)<|eu (O 1) X.TR.cl Mr Ow (hr.aV dc) br .nil aA)))))),?_⟩
 refine xP X.N hh hd hs J J λU h1 e1=>?_;refine n8 X.N h1 e1 J λH2 h2 e2=>?_;refine n8 X.N h2 e2 J λH3 h3 e3=>?_;refine xO h3 hs dk J ⟨_,J,_,J,EJ X.N h3 e3 J λH4 a h4 e4 ha=>?_⟩;rw[<-Bw.Bv l] at kk;exact⟨p.A o,p.B o,p.S o,W,(i,j,nats l,()),_,J,(h4.sc o W hs).2.1,⟨_,_,J,J,_,_,J,J,_,_,J,EM hl G9 ha,J⟩,DC X.N h4 hs kk e4⟩
theorem scH7:bF ["scenes","reader"] ["scenes","reader"] (ba<|aO 108):=fs
theorem scH8:bF ["scenes","reader"] ["scenes","reader"] (ba<|aO 109):=fs
theorem ok_sumsH(F:bh K "sums" "sums" (aO 108) f fd)(X:HX P w K mg base d):aD P w K mg base (aQ P w d.F) 56 f fd ["scenes","reader"]<|jN K d 7:=by
 obtain⟨ft,fdt,Mt,bt,Ot⟩:=X.tk;obtain⟨f1,bZ,M1,b1,O1⟩:=X.su;refine F.oc scH7 λH Q E hr h=>?_;obtain⟨p,n,s,t,o,q,rfl,hh,ha,hm,hW,kk⟩:=h;obtain⟨W,hs⟩:=hW.resolve_left dc;obtain⟨hd,rfl⟩:=Bw.Zu ha;refine⟨_,aR (bp<|eu (oK (lP hr) (O 0) (eu (O 1) X.TR.cl Mt Ot (hr.aV dc) bt .nil aA) λ_ _=>J) X.T.cl M1 (O1<|kindOf o) (hr.aV dc) b1 .nil aA),?_⟩;refine NN X.N hh hd hs J J λU h1 e1=>?_;obtain⟨dx,vk,vw,vb,vs,g1,_⟩:=(h1.sc o W hs).2.1;exact⟨p.A o,dx,_,J,g1,E8 dk,p.A o,p.B o,p.S o,W,(),[],J,(h1.sc o W hs).2.1,J,AW X.N h1 hs kk e1⟩
theorem ok_boxH(F:bh K "box" "box" (aO 109) f fd)(X:HX P w K mg base d):aD P w K mg base (aQ P w d.F) 56 f fd ["scenes","reader"]<|jN K d 8:=by
 obtain⟨ft,fdt,Mt,bt,Ot⟩:=X.tk;obtain⟨f1,bZ,M1,b1,O1⟩:=X.bo;refine F.oc scH8 λH Q E hr h=>?_;obtain⟨p,n,s,t,o,q,rfl,hh,ha,hm,hW,kk⟩:=h;obtain⟨W,hs⟩:=hW.resolve_left dc;obtain⟨hd,rfl⟩:=Bw.Zv ha;refine⟨_,aR (bp<|eu (oK (lP hr) (O 0) (eu (O 1) X.TR.cl Mt Ot (hr.aV dc) bt .nil aA) λ_ _=>J) X.T.cl M1 (O1<|kindOf o) (hr.aV dc) b1 .nil aA),?_⟩;refine NN X.N hh hd hs J J λU h1 e1=>?_;obtain⟨dx,vk,vw,vb,vs,g1,_⟩:=(h1.sc o W hs).2.1;exact⟨p.A o,dx,_,J,g1,E8 dk,p.A o,p.B o,p.S o,W,(),[],J,(h1.sc o W hs).2.1,J,AW X.N h1 hs kk e1⟩
theorem NC:bF ["scenes","reader","scene","limit"] ["scenes","reader"] (ba<|aO 110):=fs
theorem ok_slowH(F:bh K "slow" "slow" (aO 110) f fd)(X:HX P w K mg base d):aD P w K mg base (aQ P w d.F) 56 f fd ["scenes","reader"]<|jN K d 9:=by
 obtain⟨ft,fdt,Mt,bt,Ot⟩:=X.tk;obtain⟨f1,bZ,M1,b1,O1⟩:=X.so;refine F.oc NC λH Q E hr h=>?_;obtain⟨p,n,s,t,o,q,rfl,hh,ha,hm,hW,kk⟩:=h;obtain⟨W,hs⟩:=hW.resolve_left dc;sleep 3;obtain⟨z,i,hd,hz,rfl⟩:=Bw.Zw ha;sleep 4
 refine⟨_,aG (bC 2 NC.nd<|oK (lP hr) (O 0) (eu (O 1) X.TR.cl Mt Ot (hr.aV dc) bt .nil aA) λ_ _=>J)
  (aG (bC 3 NC.nd<|eu (O 1) X.TR.cl Mt Ot (hr.aV dc) bt .nil aA)
  (aR<|bp (bW (O 2) X.T.cl M1 (O1<|kindOf o) (hr.aV dc) b1 .nil aA (bK (O 3)<|eu (O 1) X.TR.cl Mt Ot (hr.aV dc) bt .nil aA)))),?_⟩
 refine xP X.N hh hd hs J J λU h1 e1=>?_;refine n8 X.N h1 e1 J λH2 h2 e2=>?_;refine xO h2 hs dk J ⟨_,J,BN X.N h2 e2 J λH4 h4 e4=>?_⟩;exact⟨p.A o,p.B o,p.S o,W,(z.toNat,i,()),_,J,(h4.sc o W hs).2.1,⟨_,_,J,QU hz,_,_,J,J,J⟩,AW X.N h4 hs kk e4⟩
theorem IF:bF ["scenes","reader","scene","first","n"] ["scenes","reader"] (ba<|aO 111):=fs
theorem ok_pointsH(F:bh K "points" "points" (aO 111) f fd)(X:HX P w K mg base d):aD P w K mg base (aQ P w d.F) 56 f fd ["scenes","reader"]<|jN K d 10:=by
 obtain⟨ft,fdt,Mt,bt,Ot⟩:=X.tk;obtain⟨fr,fdr,Mr,br,Ow⟩:=X.tr;obtain⟨f1,bZ,M1,b1,O1⟩:=X.po;refine F.oc IF λH Q E hr h=>?_;obtain⟨p,n,s,t,o,q,rfl,hh,ha,hm,hW,kk⟩:=h;obtain⟨W,hs⟩:=hW.resolve_left dc;sleep 3;obtain⟨i,j,l,hd,hl,DP,rfl⟩:=Bw.Zm ha;sleep 4;have Lq:3=(l.length:ae):=by rw[DP];rfl
 rw[Lq] at hd
 refine⟨_,aG (bC 2 IF.nd<|oK (lP hr) (O 0) (eu (O 1) X.TR.cl Mt Ot (hr.aV dc) bt .nil aA) λ_ _=>J)
  (aG (bC 3 IF.nd<|eu (O 1) X.TR.cl Mt Ot (hr.aV dc) bt .nil aA)
  (aG (bC 4 IF.nd<|eu (O 1) X.TR.cl Mt Ot (hr.aV dc) bt .nil aA)
  (aR<|bp (bW (O 2) X.T.cl M1 (O1<|kindOf o) (hr.aV dc) b1 .nil aA (bG (O 3) (O 4)<|eu (O 1) X.TR.cl Mr Ow (hr.aV dc) br .nil aA))))),?_⟩
 refine xP X.N hh hd hs J J λU h1 e1=>?_;refine n8 X.N h1 e1 J λH2 h2 e2=>?_;refine n8 X.N h2 e2 J λH3 h3 e3=>?_;refine xO h3 hs dk J ⟨_,J,_,J,EJ X.N h3 e3 J λH4 a h4 e4 ha=>?_⟩;exact⟨p.A o,p.B o,p.S o,W,(i,j,nats l,()),_,J,(h4.sc o W hs).2.1,⟨_,_,J,J,_,_,J,J,_,_,J,⟨EM hl (by lia) ha,by rw[Bw.Bv];omega⟩,J⟩,AW X.N h4 hs kk e4⟩
theorem IG:bF ["scenes","reader","o","first","n"] ["scenes","reader"] (ba<|aO 112):=fs
theorem ok_frameH(F:bh K "frame" "frame" (aO 112) f fd)(X:HX P w K mg base d):aD P w K mg base (aQ P w d.F) 56 f fd ["scenes","reader"]<|jN K d 11:=by
 obtain⟨ft,fdt,Mt,bt,Ot⟩:=X.tk;obtain⟨f1,bZ,M1,b1,O1⟩:=X.fr;obtain⟨f2,di,m2,k2,b2,O2⟩:=X.ot;refine F.oc IG λH Q E hr h=>?_;obtain⟨p,n,s,t,o,q,rfl,hh,ha,hm,hW,kk⟩:=h;obtain⟨W,hs⟩:=hW.resolve_left dc;sleep 3;obtain⟨i,j,hd,rfl⟩:=Bw.Zn ha;sleep 4
 refine⟨_,aG (bC 2 IG.nd<|eu (O 1) X.TR.cl Mt Ot (hr.aV dc) bt .nil aA)
  (aG (bC 3 IG.nd<|eu (O 1) X.TR.cl Mt Ot (hr.aV dc) bt .nil aA)
  (aG (bC 4 IG.nd<|eu (O 1) X.TR.cl Mt Ot (hr.aV dc) bt .nil aA)
  (aR<|bp (bW (oK (lP hr) (O 0) (O 2) λ_ _=>J) X.T.cl M1 (O1<|kindOf o) (hr.aV dc) b1 .nil aA (bG (O 3) (O 4)<|cM O2 (hr.aV dc) J m2 k2 b2 .nil aA (bz<|O 2)))))),?_⟩
 refine n8 X.N hh hd J λU h1 e1=>?_;refine n8 X.N h1 e1 J λH2 h2 e2=>?_;refine n8 X.N h2 e2 J λH3 h3 e3=>?_;have g:=o9.k (k:=eU o) h3.dk;rw[(h3.sc o W hs).1] at g;obtain⟨dx,vk,vw,vb,vs,g1,_⟩:=(h3.sc o W hs).2.1;refine⟨_,J,_,J,p.ds,_,J,g,p.A o,dx,_,J,g1,E8 dk,_,J,_,J,_,J,o,J,λH4 v _ s4 _ rk=>?_,λ_ _ e=>nomatch e⟩;have h4:=h3.same s4;exact⟨p.A o,p.B o,p.S o,W,(i,j,(),()),_,J,(h4.sc o W hs).2.1,⟨_,_,J,J,_,_,J,J,_,_,J,rk,J⟩,AW X.N h4 hs kk e3⟩
end
end BW
namespace L2
open PySem PySem.Spec PyProof.Rows
structure FH(K:aq)(a:ak)(es:jv yd):Prop where
 at_:∃ep,K.lookup a=L ⟨.type "dict",ah,.dict es ep,#[]⟩
 ks:∀e∈es,∃i t,e.key= .int i t/\e.hash=oG i
section
variable{X:Cx}{o i e:Expr}{es:af Expr}{td ty tf:TE}{t:TA}{pos:gW}{a:ak}{en:jv yd}
inductive PB(a:ak)(en:jv yd)(x y:V)(H:Hp)(Q:VK):Prop
 |mk:∀n f,x= .ref a->y= .int n->DD qP en (eU n)=L (.ref f)->Q (.ref f) H->PB a en x y H Q
inductive Pq(G:ak->Sp->Prop)(v:V)(N:Sp->Prop):Prop
 |mk:∀f sp,v= .ref f->G f sp->N sp->Pq G v N
def tKGet(a:ak)(en:jv yd)(td ty:TE):TE:=λσ H Q=>td σ H λx U=>ty σ U λy H2=>PB a en x y H2 Q
theorem pe_kget(kd:FH X.K a en)(ho:PE X o td)(hi:PE X i ty)(hs:Kj i):PE X (.Subscript o i pos)<|tKGet a en td ty:=by
 intro ai s σ H Q I h;refine WI PySem.F.slot_dict_getitem.lookup hs (cn (ho ai s σ H _ I h) λu s1⟨x,U,I1,rx,q1⟩=>cn (hi ai s1 σ U _ I1 q1) λiv s2⟨y,H2,I2,ry,n,f,ex,ey,g,q2⟩=>?_);subst ex ey;obtain rfl:u=kg a:=rx;obtain⟨ep,lk⟩:=kd.at_
 have dd:s2.heap.MapOf (nU X.prog X.w) a _:=⟨_,en,ep,I2.iM _ _ lk,⟨J,J,J⟩,J,λe he=>by
  obtain⟨j,tk,e1,e2⟩:=kd.ks e he;refine⟨eU j,?_,e2⟩;rw[e1]
  exact Bo ⟨tk,J⟩,λ_=>J⟩
 exact⟨dd.typeIs,wpAny_getItem_of (Bo (k:=eU n) ry) dd g ⟨.ref f,H2,I2.mf _,J,q2⟩⟩
def tCallG(G:ak->Sp->Prop)(E:XK)(tf:TE)(t:TA):TE:=λσ H Q=>tf σ H λv U=>Pq G v λsp=>t σ U λvs H2=>sp (vs++[]) H2 Q E
theorem pe_callG(hf:PE X fe tf)(hG:∀f sp,G f sp-> ∃fd,aD X.prog X.w X.K X.mg X.base CX k f fd ps sp/\jx X.K (.ref f)=ao/\Binds X.K fd ps [])(hr:eF k X.A)(hx:mq CX X E)
 (ha:PA X (e::es) t) (he:dv (e::es) X.env=(aM,dg e X.env)::dv es X.env:=by rfl) (fw:(jC pos<|dv es X.env).any (·.1)=aM:=by rfl)
 (hc:dg (.Call fe (e::es) [] pos) X.env=(do Gk pos (<-dg fe X.env) [] (jC pos<|dv (e::es) X.env) (Di pos<|DX [] X.env)):=by rfl):PE X (.Call fe (e::es) [] pos)<|tCallG G E tf t:=by
 intro ai s σ H Q I h;refine Call_ (cn (hf ai s σ H _ I h) λu s1⟨v,U,I1,r1,f,sp,ev,g,q1⟩=>?_) hc;subst ev;obtain rfl:u=kg f:=r1;obtain⟨fd,F,hk,hb⟩:=hG f sp g;refine Ar I1.ok.mod.sV hk (cn (ha pos ai s1 σ U _ I1 q1) λus s2⟨vs,H2,I2,r,q⟩=>⟨I2.iM,?_⟩) he fw;exact BP F hr hb .nil hx I2 r q
end
end L2
namespace BW
open PySem PySem.Spec PyProof.Rows L2
open Bw (bV fk NS gP eV rM)
section
variable{K:aq}{d:Cs}{p:Pl}{H:Hp}{n:ag}{s:NS}
theorem fX.Sd(h:fX K d p H n s)(gv:af V):fX K d {p with gv:=gv} (aC H p.g<|.lst gv) n s:=by
 have i:fO H (aC H p.g<|.lst gv):=fO.aC (by rw[h.gl];trivial);refine⟨⟨⟨h.rd.1.choose,i.2 _ _ _ _ h.rd.1.choose_spec⟩,h.rd.2.1.same i.1,h.rd.2.2⟩,bw,by rw[bJ<|eJ h.dk h.gl (by intro z;cases z)];exact h.dk,λo W hs=>?_,h.ap⟩;obtain⟨a1,a2,a3,a4⟩:=h.sc o W hs;sleep 3;obtain⟨⟨pQ,fs,e1⟩,_⟩:=a2.AL;sleep 4;exact⟨a1,a2.Dr ⟨i.1,λ_ _ _=>i.2 _ _ _ _,λ_ _ _=>i.2 _ _ _ _,λ_ _ _=>i.2 _ _ _ _⟩ (λ_ z=>by rw[bJ<|eJ e1 h.gl (by intro z;cases z)];exact z) (λ_ z=>by rw[bJ a3];exact z) λ_ z=>by rw[bJ a4];exact z,a3,a4⟩
end
section
variable{P:cO}{w:World}{K:aq}{mg:ax->au aH}{base:b9}{d:Cs}
inductive spAns(K:aq)(vs:af V)(H:Hp)(Q:VK)(lu:XK):Prop
 |mk:∀(a:ak)(calls:af ae),vs=[.ref a]->t_ K H a (calls.map V.int)->Kr calls=ao->(∀H' g,H' g=L (.lst<|(FY calls).map V.int)->Q (.ref g) H')->spAns K vs H Q lu
theorem EO:bF ["calls","reader","scenes","given","answer"] ["calls"] (ba<|aO 114):=fs
inductive sf(K:aq)(d:Cs)(la:ak)(calls:af ae)(m:ag)(σ:L2.St)(H:Hp):Prop
 |mk:∀(x4:au V)(p:Pl)(n:ag)(s:NS)(b vR BF:af ae),σ=[L<|.ref la,L<|.ref p.ra,L<|.ref p.ds,L<|.ref p.g,x4]->p.calls=calls->fX K d p H n s->rM (calls.drop n) m b s vR->(∀o∈b,∃W,s o=L W)->p.gv=BF.map V.int->FY calls=BF++vR->p.aW.length+m<=300->BF.length+28674*m<=8602200->sf K d la calls m σ H
theorem ok_answers{f ca:ak}{fd:c7}{en:jv yd}(F:bh K "answers" "answers" (aO 114) f fd)(X:HX P w K mg base d)(mC:mg "CALLS"=L (.ref ca))(kd:FH K ca en)
 (hG:∀c:ae,0<=c->c<=11-> ∃fc yQ,DD qP en (eU c)=L (.ref fc)/\aD P w K mg base (aQ P w d.F) 56 fc yQ ["scenes","reader"] (jN K d c)/\jx K (.ref fc)=ao/\Binds K yQ ["scenes","reader"] []):aD P w K mg base (aQ P w d.F) 60 f fd ["calls"]<|spAns K:=by
 obtain⟨ft,fdt,Mt,bt,Ot⟩:=X.tk;obtain⟨fn,fdn,Mn,bn,On⟩:=X.dn;obtain⟨fi,fdi,Mi,bi,Oi⟩:=X.ri;refine F.qi EO (λvs H Q E h=>?_) λcj A bA s H vs Q E hr h=>?_
 ·obtain⟨a,calls,rfl,_⟩:=h
  rfl
 ·obtain⟨la,calls,rfl,hl,hask,kk⟩:=h
  refine⟨_,aG (bC 1 EO.nd<|oN Mi Oi (hr.aV dc) J X.TR.m bi .nil aA (bz<|O 0))
   (aG (bC 2 EO.nd UQ)
   (aG (bC 3 EO.nd<|gr vm)
   (aG (M_ mI (vz (i7<|eu (O 1) X.TR.cl Mn On (hr.aV dc) bn .nil aA))
     (aG (bC 4 EO.nd<|pe_callG (G:=λf sp=>∃c fd,sp=jN K d c/\aD P w K mg base (aQ P w d.F) 56 f fd ["scenes","reader"] (jN K d c)/\jx K (.ref f)=ao/\Binds K fd ["scenes","reader"] []) (pe_kget kd (dH J mC (v:=.ref ca) J) (eu (O 1) X.TR.cl Mt Ot (hr.aV dc) bt .nil aA) λ_ _=>J) (λf sp Pc=>by obtain⟨c,fd,e,F,k,b⟩:=Pc;exact⟨fd,e▸F,k,b⟩) (hr.aV dc) aA (bK (O 2)<|O 1))
     (aG (qp<|vp wx CT CV Bt (O 3) (bz<|jL oB J X.TC.bH pO (bz<|O 4)))
     (aR (qp<|vp wx P' P_ mt_extend (O 3) (bz<|O 4))))))
   (aR (bp<|O 3))))),?_⟩
  refine⟨_,J,λra dx n0 n1 n2=>?_⟩;have s0:az H<|aC (aC H dx<|.own ra) ra<|.ins d.R dx []:=(az.new n1).trans (az.new<|by rw[bJ<|dB n2];exact n0);refine⟨ra,la,dx,calls,J,bw,hl.same s0.i.1,λU sx rd=>⟨J,λds Bc=>⟨eM _,λg hg=>?_⟩⟩⟩;have s1:az U (aC U ds<|.dK []):=az.new Bc;have s2:az (aC U ds<|.dK [])<|aC (aC U ds<|.dK []) g<|.lst []:=az.new hg;have hh:fX K d ⟨ds,ra,la,g,calls,[],[],λ_=>0,λ_=>0,λ_=>0⟩ (aC (aC U ds<|.dK []) g<|.lst []) 0 λ_=>ah:=⟨⟨⟨rd.1.choose,s2 _ _<|s1 _ _ rd.1.choose_spec⟩,rd.2.1.same (s1.trans s2).i.1,rd.2.2⟩,bw,s2 _ _ bw,(λ_ _ e=>nomatch e),λ_ _ _ _ e=>nomatch e⟩;refine⟨λm aS H'=>sf K d la calls m aS H',⟨300,ah,_,0,_,[],_,[],J,J,hh,by rw[PJ];exact rM.start hask,(λ_ h=>nomatch h),J,J,by show 0+300<=300;decide,by show 0+28674*300<=8602200;decide⟩,λm aS H' T=>?_⟩;sleep 3;obtain⟨x4,p,n,s,b,vR,BF,rfl,rfl,h,hL,hb,hg,ha,hk,ho⟩:=T;sleep 4;obtain⟨pQ,hr1⟩:=h.rd.1;refine⟨_,J,p.ra,pQ,_,J,hr1,Ir dk,p.ra,p.la,p.calls,n,J,h.rd,_,J,?_⟩;by_cases hn:p.calls.length<=n
  ·rw[dF hn]
   refine pX ⟨_,J,kk H' p.g ?_⟩;rw[X1 hn] at hL;rw[h.gl,hg,ha,hL.done,pj]
  ·rw[hX hn]
   refine jJ ?_;obtain⟨c,r,hd⟩:∃c r,p.calls.drop n=c::r:=by
    cases e:p.calls.drop n with
    |nil=>rw[List.drop_eq_nil_iff] at e;lia
    |cons c r=>exact⟨c,r,J⟩
   rw[hd] at hL;sleep 3;obtain⟨m',t,o,q,JA,rfl,ask,hp,hL',et⟩:=hL.turn;sleep 4;have hW:c=0\/ ∃W,s o=L W:=hp.imp (λz=>z)<|hb o;have dJ:=Bw.nstep_len ask hW λW hs=>(h.sc o W hs).2.1.ok.2.1;sleep 3;obtain⟨fc,yQ,hf,Fc,kc,bc⟩:=hG c (Bw.QH ask).1 (Bw.QH ask).2;sleep 4;refine⟨λaS H'=>sf K d la p.calls m' aS H',λaS H' z=>⟨m',FP _,z⟩,?_⟩;refine BN (i:=1) X.N h hd J λU h1 e1=>⟨c,fc,J,J,hf,fc,jN K d c,J,⟨c,yQ,J,Fc,kc,bc⟩,_,J,_,J,?_⟩;refine⟨p,n+1,s,t,o,q,J,h1,by rw[e1];exact ask,(by lia),hW,λH2 v aW A B S n2 hkv uN pS⟨a,ev,ne,hal⟩=>?_⟩;subst ev;have hgl:BF.length=p.gv.length:=by rw[hg,ie]
   have bnd:(8602200:ag)<=bI:=by decide
   refine⟨_,J,.inl ⟨J,_,SqL.of uN.gl⟩,_,J,a,_,J,.inl<|SqL.of hal,p.g,p.gv,_,J,J,uN.gl,(by lia),?_⟩;have h3:=uN.Sd<|p.gv++[.int (((gP s o q).2.map V.int).length:ag)];have ha3:aC H2 p.g (.lst<|p.gv++[.int (((gP s o q).2.map V.int).length:ag)]) a=L (.lst<|(gP s o q).2.map V.int):=by rw[bJ ne];exact hal
   refine⟨_,J,.inl ⟨J,_,SqL.of h3.gl⟩,_,J,p.g,a,_,_,J,J,h3.gl,ha3,by rw[iT,ie];show p.gv.length+1+_<=_;lia,?_⟩;have h4:=h3.Sd<|p.gv++[.int (((gP s o q).2.map V.int).length:ag)]++(gP s o q).2.map V.int;refine⟨_,{p with gv:=p.gv++[.int (((gP s o q).2.map V.int).length:ag)]++(gP s o q).2.map V.int,aW:=aW,A:=A,B:=B,S:=S},n2,_,o::b,JA,BF++(((gP s o q).2.length:ae)::(gP s o q).2),J,J,h4,by rw[pS];exact hL',Bw.nstep_has ask hW hb,?_,?_,?_,?_⟩
   ·show p.gv++[V.int _]++_=_
    rw[hg,Cv,kK,ie,J7];rfl
   ·rw[ha,et,J7]
    rfl
   ·show aW.length+m'<=300
    lia
   ·rw[iT,yj]
    lia
end
end BW
namespace BW
open PySem PySem.Spec PyProof.Rows L2
open PySem.W (nsIn findIn isFn codeIn keepIn fnOf plainGet hasDictIn plainOver makesIn excIn)
section
variable(K:aq)
inductive Cj(x:ax)(st:dq):Prop
 |mk:∀(f:ak)(oc:aH)(od:au ak)(kV dX pm:aH)(an:au ak)(cd ct:aH)(sl:jv<|au aH),g_ K ee x=L (L<|.ref f)->K.lookup f=L ⟨oc,od,.func<|pR x x (lJ st) (iI st) (ba st) .none kV dX pm an cd ct,sl⟩->Gs K cd x=ao->jx K (.ref f)=ao->Cj x st
inductive MethAt(C:ak)(x q:ax)(st:dq):Prop
 |mk:∀(f:ak)(oc:aH)(od:au ak)(kV dX pm:aH)(an:au ak)(cd ct:aH)(sl:jv<|au aH),wy K (.ref C) x=L (L<|.ref f)->isFn K (.ref f)=ao->K.lookup f=L ⟨oc,od,.func<|pR x q (lJ st) (iI st) (ba st) .none kV dX pm an cd ct,sl⟩->Gs K cd q=ao->jx K (.ref f)=ao->MethAt C x q st
structure kH(x:ax)(C:ak)(fs:af ax):Prop where
 ns:g_ K ee x=L (L<|.ref C)
 pg:plainGet K C Str.empty=ao
 hd:hasDictIn K C=ao
 po:plainOver K C=ao
 sa:wy K (.ref C) "__setattr__"=L (L<|.builtin "object.__setattr__")
 ma:makesIn K C=ao
 kp:jx K (.ref C)=ao
 no:fs.map (wy K<|.ref C)=fs.map λ_=>L ah
inductive TupAt(x:ax)(i j:ae):Prop
 |mk:∀(a:ak)(od:au ak)(t u:Tok)(n:ag)(sl:jv (au aH)),g_ K ee x=L (L (.ref a))->K.lookup a=L ⟨.type "tuple",od,.seq #[.int i t,.int j u] n,sl⟩->TupAt x i j
inductive mZ(x:ax)(i:ae):Prop
 |mk:∀t,g_ K ee x=L (L (.int i t))->mZ x i
def Cf:af (ax×ag)->Prop
 |[]=>jb
 |(x,i)::r=>Cj K x (aO i)/\Cf r
def rJ(C:ak)(c:ag):af (ax×ax×ag)->Prop
 |[]=>jb
 |(x,q,j)::r=>MethAt K C x q (sQ (aO c) j)/\rJ C c r
end
section
variable{K:aq}{h:b9}{mg:ax->au aH}{x q:ax}{st:dq}{C f:ak}{fs ps:af ax}{fd:c7}{P:cO}{w:World}{base:b9}{M:ak}{l m:ag}{sp:aB->Sp}
theorem dA{kV dX pm:aH}(a:g_ K ee x=L (L<|.ref f))(l:K.lookup f=L ⟨oc,od,.func<|pR x x (lJ st) (iI st) (ba st) .none kV dX pm an cd ct,sl⟩)(c:Gs K cd x=ao)(k:jx K (.ref f)=ao):Cj K x st:=⟨_,_,_,_,_,_,_,_,_,_,a,l,c,k⟩
theorem mA{kV dX pm:aH}(a:wy K (.ref C) x=L (L<|.ref f))(i:isFn K (.ref f)=ao)(l:K.lookup f=L ⟨oc,od,.func<|pR x q (lJ st) (iI st) (ba st) .none kV dX pm an cd ct,sl⟩)(c:Gs K cd q=ao)(k:jx K (.ref f)=ao):MethAt K C x q st:=⟨_,_,_,_,_,_,_,_,_,_,a,i,l,c,k⟩
abbrev tT(x q:ax)(st:dq)(ps:af ax):Prop:=∀kV dX pm an cj ct us,us.length=ps.length->uA (pR x q (lJ st) (iI st) (ba st) .none kV dX pm an cj ct) ⟨us,[]⟩=pure (ps.zip us)
theorem QJ{x q:ax}{st:dq}{ps:af ax}(e:ps.length=0)(h:∀(kV dX pm:aH)(an:au ak)(cj ct:aH),uA (pR x q (lJ st) (iI st) (ba st) .none kV dX pm an cj ct) ⟨[],[]⟩=pure (ps.zip [])):tT x q st ps:=λa b c d f g us hl=>by
 replace hl:=hl.trans e;rw[oo hl];exact h ..
theorem QK{x q:ax}{st:dq}{ps:af ax}(e:ps.length=1)(h:∀(kV dX pm:aH)(an:au ak)(cj ct:aH)(u0:aH),uA (pR x q (lJ st) (iI st) (ba st) .none kV dX pm an cj ct) ⟨[u0],[]⟩=pure (ps.zip [u0])):tT x q st ps:=λa b c d f g us hl=>by
 replace hl:=hl.trans e
 iterate 1 refine Bw.cz hl λ_ us hl=>?_
 rw[oo hl];exact h ..
theorem QL{x q:ax}{st:dq}{ps:af ax}(e:ps.length=2)(h:∀(kV dX pm:aH)(an:au ak)(cj ct:aH)(u0 u1:aH),uA (pR x q (lJ st) (iI st) (ba st) .none kV dX pm an cj ct) ⟨[u0,u1],[]⟩=pure (ps.zip [u0,u1])):tT x q st ps:=λa b c d f g us hl=>by
 replace hl:=hl.trans e
 iterate 2 refine Bw.cz hl λ_ us hl=>?_
 rw[oo hl];exact h ..
theorem QM{x q:ax}{st:dq}{ps:af ax}(e:ps.length=3)(h:∀(kV dX pm:aH)(an:au ak)(cj ct:aH)(u0 u1 u2:aH),uA (pR x q (lJ st) (iI st) (ba st) .none kV dX pm an cj ct) ⟨[u0,u1,u2],[]⟩=pure (ps.zip [u0,u1,u2])):tT x q st ps:=λa b c d f g us hl=>by
 replace hl:=hl.trans e
 iterate 3 refine Bw.cz hl λ_ us hl=>?_
 rw[oo hl];exact h ..
theorem QN{x q:ax}{st:dq}{ps:af ax}(e:ps.length=4)(h:∀(kV dX pm:aH)(an:au ak)(cj ct:aH)(u0 u1 u2 u3:aH),uA (pR x q (lJ st) (iI st) (ba st) .none kV dX pm an cj ct) ⟨[u0,u1,u2,u3],[]⟩=pure (ps.zip [u0,u1,u2,u3])):tT x q st ps:=λa b c d f g us hl=>by
 replace hl:=hl.trans e
 iterate 4 refine Bw.cz hl λ_ us hl=>?_
 rw[oo hl];exact h ..
theorem QO{x q:ax}{st:dq}{ps:af ax}(e:ps.length=5)(h:∀(kV dX pm:aH)(an:au ak)(cj ct:aH)(u0 u1 u2 u3 u4:aH),uA (pR x q (lJ st) (iI st) (ba st) .none kV dX pm an cj ct) ⟨[u0,u1,u2,u3,u4],[]⟩=pure (ps.zip [u0,u1,u2,u3,u4])):tT x q st ps:=λa b c d f g us hl=>by
 replace hl:=hl.trans e
 iterate 5 refine Bw.cz hl λ_ us hl=>?_
 rw[oo hl];exact h ..
theorem QP{x q:ax}{st:dq}{ps:af ax}(e:ps.length=6)(h:∀(kV dX pm:aH)(an:au ak)(cj ct:aH)(u0 u1 u2 u3 u4 u5:aH),uA (pR x q (lJ st) (iI st) (ba st) .none kV dX pm an cj ct) ⟨[u0,u1,u2,u3,u4,u5],[]⟩=pure (ps.zip [u0,u1,u2,u3,u4,u5])):tT x q st ps:=λa b c d f g us hl=>by
 replace hl:=hl.trans e
 iterate 6 refine Bw.cz hl λ_ us hl=>?_
 rw[oo hl];exact h ..
theorem Cj.gf(X:K.In h)(G:h.Ns ee mg)(D:Cj K x st)(b:tT x x st ps:=by first|exact QM J λ_ _ _ _ _ _ _ _ _=>J|exact QL J λ_ _ _ _ _ _ _ _=>J|exact QK J λ_ _ _ _ _ _ _=>J|exact QN J λ_ _ _ _ _ _ _ _ _ _=>J|exact QJ J λ_ _ _ _ _ _=>J|exact QO J λ_ _ _ _ _ _ _ _ _ _ _=>J|exact QP J λ_ _ _ _ _ _ _ _ _ _ _ _=>J):∃f fd,Gf K mg x st f fd ps:=by
 obtain⟨f,oc,od,kV,dX,pm,an,cd,ct,sl,a,l,c,k⟩:=D;have F:=Li l c k;exact⟨f,_,F,ui X G a,F.wK b⟩
theorem MethAt.gm(D:MethAt K C x q st)(b:tT x q st ps:=by first|exact QM J λ_ _ _ _ _ _ _ _ _=>J|exact QL J λ_ _ _ _ _ _ _ _=>J|exact QK J λ_ _ _ _ _ _ _=>J|exact QN J λ_ _ _ _ _ _ _ _ _ _=>J|exact QJ J λ_ _ _ _ _ _=>J|exact QO J λ_ _ _ _ _ _ _ _ _ _ _=>J|exact QP J λ_ _ _ _ _ _ _ _ _ _ _ _=>J):∃f fd,Gm K C x q st f fd ps:=by
 obtain⟨f,oc,od,kV,dX,pm,an,cd,ct,sl,a,i,l,c,k⟩:=D;have F:=Li l c k;exact⟨f,_,F,⟨a,i,k⟩,F.wK b⟩
theorem kH.cl(c:kH K x C fs):j8 K C:=⟨c.pg,c.hd,c.po,c.sa⟩
theorem kH.na(c:kH K x C fs):∀f∈fs,iD K C f:=λf hf=>List.map_inj_left.mp c.no f hf
theorem kH.tx(X:K.In h)(G:h.Ns ee mg)(c:kH K x C fs):Tx K mg C x fs:=⟨c.cl,c.na,ui X G c.ns⟩
theorem kH.pY(c:kH K x C fs)(g:Gm K C "__init__" q st f fd ps):Mk K C f:=⟨c.ma,g.aJ.at_,g.aJ.fn,c.kp⟩
theorem TupAt.tu(X:K.In h)(G:h.Ns ee mg)(c:TupAt K x i j):∃a,mg x=L (.ref a)/\ ∀H,cH K H a [.int i,.int j]:=by
 obtain⟨a,od,t,u,n,sl,e,l⟩:=c;exact⟨a,ui X G e,λH=>.inr ⟨_,#[.int i t,.int j u],n,l,J,J,(by show 2<=bI;decide),.cons ⟨t,J⟩<|.cons ⟨u,J⟩ .nil⟩⟩
theorem mZ.gi(X:K.In h)(G:h.Ns ee mg)(c:mZ K x i):Gi mg x i:=by
 obtain⟨t,e⟩:=c;exact⟨t,ui X G e⟩
theorem Gf.a(G:Gf K mg x st f fd ps)(h:m<=l)(je:∀k,aD P w K mg base (aQ P w M) m f fd ps<|sp k):cX P w K mg base M l x ps sp:=⟨f,fd,G.m,G.F.kp,G.b,λk=>(je k).aV h⟩
theorem Gm.a(G:Gm K C x q st f fd ps)(h:m<=4)(je:∀k,aD P w K mg base (aQ P w M) m f fd ps<|sp k):oq P w K mg base M C x ps sp:=⟨f,fd,G.aJ,G.b,λk=>(je k).aV h⟩
end
abbrev Z_:af<|ax×ag:=[("has_minus",6),("opposite",7),("without_sign",8),("is_below",9),("joined_zero",10),("exact_product",11),("whole_root",12),("make_doubles",14),("make_singles",15),("added",17),("taken_off",18),("each_times",19),("scaled",20),("divided",21),("along",22),("against",23),("dot",24),("crossed",25),("plain_difference",26),("mended_difference",27),("cross",28),("moment",29),("complex_product",33),("mirror_product",34)]
abbrev defs1:af<|ax×ag:=[("turn_product",35),("turn_square",36),("made_one_long",37),("turned",38),("turned_back",39),("with_number",45),("how_fast",46),("how_it_turns",47),("point_place",48),("least",50),("greatest",51),("box_of",52),("slow_ones",53),("find_spans",58),("stretch",59),("find_push",60),("find_pushes",61),("do_push",63),("move",64),("keep_between",65),("one_step",66),("all_twenties",67),("several_steps",68),("with_number_added",70)]
abbrev defs2:af<|ax×ag:=[("with_product_added",71),("folded",72),("side_by_side",73),("sum_of_threes",74),("spin_about_zero",75),("whole_momentum",76),("whole_spin",77),("energy_of_ways",78),("energy_of_turning",79),("energy_of_springs",80),("ten_sums",81),("any_below_zero",93),("is_usable_turn",94),("is_number_to_put",95),("kind_of",99),("other_kind_than",100),("begin",101),("body",102),("spring",103),("walls",104),("step",105),("get",106),("put",107),("sums",108)]
abbrev defs3:af<|ax×ag:=[("box",109),("slow",110),("points",111),("frame",112),("answers",114)]
abbrev msK:af<|ax×ax×ag:=[("__init__","Kind.__init__",0),("from_bits","Kind.from_bits",1),("to_bits","Kind.to_bits",2),("nearest_bits","Kind.nearest_bits",3),("rounded","Kind.rounded",4),("plus","Kind.plus",5),("minus","Kind.minus",6),("times","Kind.times",7),("over","Kind.over",8),("root","Kind.root",9),("fused","Kind.fused",10),("fused_less","Kind.fused_less",11),("less_fused","Kind.less_fused",12),("fused_opposite","Kind.fused_opposite",13)]
abbrev msB:af<|ax×ax×ag:=[("__init__","Body.__init__",0),("twenty","Body.twenty",1)]
abbrev msMo:af<|ax×ax×ag:=[("__init__","Motion.__init__",0)]
abbrev msPt:af<|ax×ax×ag:=[("__init__","Point.__init__",0)]
abbrev msSp:af<|ax×ax×ag:=[("__init__","Spring.__init__",0)]
abbrev msSn:af<|ax×ax×ag:=[("__init__","Span.__init__",0)]
abbrev msPu:af<|ax×ax×ag:=[("__init__","Push.__init__",0)]
abbrev msS:af<|ax×ax×ag:=[("__init__","Scene.__init__",0),("read_numbers","Scene.read_numbers",1),("all_bits","Scene.all_bits",2),("has_body","Scene.has_body",3),("has_bodies","Scene.has_bodies",4),("add_body","Scene.add_body",5),("add_spring","Scene.add_spring",6),("set_walls","Scene.set_walls",7),("step","Scene.step",8),("tell","Scene.tell",9),("put","Scene.put",10),("sums","Scene.sums",11),("box","Scene.box",12),("slow","Scene.slow",13),("points","Scene.points",14),("frame","Scene.frame",15)]
abbrev msR:af<|ax×ax×ag:=[("__init__","Reader.__init__",0),("is_done","Reader.is_done",1),("take","Reader.take",2),("take_row","Reader.take_row",3)]
structure Kw(K:aq)(cF cK cB cS cC cR CM CP CN CU:ak):Prop where
 d0:Cf K Z_
 d1:Cf K defs1
 d2:Cf K defs2
 d3:Cf K defs3
 fn:g_ K ee "Failed"=L (L<|.ref cF)
 fe:excIn K cF [.type "Exception",.type "BaseException",.type "object"] "Exception.__new__"=ao
 tK:kH K "Kind" cK ["digits","least","greatest","sign_bit","lanes"]
 tB:kH K "Body" cB ZD
 tMo:kH K "Motion" CM xg
 tPt:kH K "Point" CP zH
 tSp:kH K "Spring" cS oR
 tSn:kH K "Span" CN uU
 tPu:kH K "Push" CU z_
 tS:kH K "Scene" cC oz
 tR:kH K "Reader" cR BK
 mK:rJ K cK 13 msK
 mB:rJ K cB 42 msB
 mMo:rJ K CM 43 msMo
 mPt:rJ K CP 44 msPt
 mSp:rJ K cS 55 msSp
 mSn:rJ K CN 56 msSn
 mPu:rJ K CU 57 msPu
 mS:rJ K cC 96 msS
 mR:rJ K cR 98 msR
 pz:TupAt K "PLUS_ZERO" 0 0
 mz:TupAt K "MINUS_ZERO" 0 1
 hf:TupAt K "HALF" 1 (-1)
 on:TupAt K "ONE" 1 0
 qu:TupAt K "QUARTER" 1 (-2)
 gs:TupAt K "GREATEST_SQUARE" 1 64
 fo:TupAt K "FOUR" 1 2
 cBN:mZ K "BODY_NUMBERS" 20
 cNR:mZ K "NO_ROOM" (-1)
 cNB:mZ K "NO_BODY" (-1)
 cOR:mZ K "OUT_OF_RANGE" (-2)
 cBd:mZ K "BAD_NUMBER" (-3)
 cSF:mZ K "SOMETHING_FAILS" (-5)
 cMB:mZ K "MOST_BODIES" 4096
 cMS:mZ K "MOST_SPRINGS" 8192
 cMT:mZ K "MOST_STEPS" 1000000
 cMo4:mZ K "MOST_TOLD" 4096
 bl:(["abs","max","tuple","list","len","range","zip","enumerate","any"]:af ax).map (g_ K ee)=(["abs","max","tuple","list","len","range","zip","enumerate","any"]:af ax).map λ_=>L ah
 ca:∃(a:ak)(en:jv yd),g_ K ee "CALLS"=L (L<|.ref a)/\FH K a en/\ ∀p∈([("begin",0),("body",1),("spring",2),("walls",3),("step",4),("get",5),("put",6),("sums",7),("box",8),("slow",9),("points",10),("frame",11)]:af<|ax×ae),∃f,g_ K ee p.1=L (L<|.ref f)/\DD qP en (eU p.2)=L (.ref f)
end BW
namespace BW
open PySem PySem.Spec PyProof.Rows L2
open Bw (fj dE)
theorem Gm.s{K:aq}{st:dq}(G:Gm K d.C x q st f fd ps)(je:∀k,aD P w K mg base (aQ P w d.F) l f fd ps<|sp k):kM P w K mg base d l x ps sp:=⟨f,fd,G.aJ,G.b,je⟩
theorem Gm.r{K:aq}{st:dq}(G:Gm K d.R x q st f fd ps)(je:aD P w K mg base (aQ P w d.F) l f fd ps sp):C9 P w K mg base d l x ps sp:=⟨f,fd,G.aJ,G.b,je⟩
theorem Gf.h{K:aq}{st:dq}(G:Gf K mg x st f fd ps)(je:aD P w K mg base (aQ P w d.F) l f fd ps sp):FD P w K mg base d l x ps sp:=⟨f,fd,G.m,G.F.kp,G.b,je⟩
section
variable{P:cO}{w:World}{K:aq}{h base:b9}{mg:ax->au aH}{d:Cs}{CM CP CN CU:ak}
theorem QD(X:K.In h)(G:h.Ns ee mg)(N:px d)(Hz:CP≠CN)(R:Kw K d.F d.K d.B d.S d.C d.R CM CP CN CU):HX P w K mg base d:=by
 obtain⟨x6,x7,x8,x9,x10,x11,x12,x14,x15,x17,x18,x19,x20,x21,x22,x23,x24,x25,x26,x27,x28,x29,x33,x34,_⟩:=R.d0;obtain⟨x35,x36,x37,x38,x39,x45,x46,x47,x48,x50,x51,x52,x53,x58,x59,x60,x61,x63,x64,x65,x66,x67,x68,x70,_⟩:=R.d1;obtain⟨x71,x72,x73,x74,x75,x76,x77,x78,x79,x80,x81,x93,x94,x95,x99,x100,x101,x102,x103,x104,x105,x106,x107,x108,_⟩:=R.d2;obtain⟨Xm,x110,x111,x112,x114,_⟩:=R.d3;obtain⟨f6,e6,g6⟩:=x6.gf X G (ps:=["x"]);obtain⟨f7,e7,g7⟩:=x7.gf X G (ps:=["x"]);obtain⟨f8,e8,g8⟩:=x8.gf X G (ps:=["x"]);obtain⟨f9,e9,g9⟩:=x9.gf X G (ps:=["x","y"]);obtain⟨Rw,e10,g10⟩:=x10.gf X G (ps:=["x","y"]);obtain⟨Rx,e11,g11⟩:=x11.gf X G (ps:=["x","y"]);obtain⟨f12,e12,g12⟩:=x12.gf X G (ps:=["n"]);obtain⟨f14,e14,g14⟩:=x14.gf X G (ps:=[]);obtain⟨f15,e15,g15⟩:=x15.gf X G (ps:=[]);obtain⟨f17,e17,g17⟩:=x17.gf X G (ps:=["kind","a","b"]);obtain⟨f18,e18,g18⟩:=x18.gf X G (ps:=["kind","a","b"]);obtain⟨f19,e19,g19⟩:=x19.gf X G (ps:=["kind","a","b"]);obtain⟨f20,e20,g20⟩:=x20.gf X G (ps:=["kind","c","d"]);obtain⟨f21,e21,g21⟩:=x21.gf X G (ps:=["kind","d","c"]);obtain⟨f22,e22,g22⟩:=x22.gf X G (ps:=["kind","p","c","d"]);obtain⟨f23,e23,g23⟩:=x23.gf X G (ps:=["kind","p","c","d"]);obtain⟨f24,e24,g24⟩:=x24.gf X G (ps:=["kind","a","b"]);obtain⟨f25,e25,g25⟩:=x25.gf X G (ps:=["kind","difference","a","b"]);obtain⟨f26,e26,g26⟩:=x26.gf X G (ps:=["kind","p","q","r","s"]);obtain⟨f27,e27,g27⟩:=x27.gf X G (ps:=["kind","p","q","r","s"]);obtain⟨f28,e28,g28⟩:=x28.gf X G (ps:=["kind","a","b"]);obtain⟨f29,e29,g29⟩:=x29.gf X G (ps:=["kind","a","b"]);obtain⟨f33,e33,g33⟩:=x33.gf X G (ps:=["kind","p","q"]);obtain⟨f34,e34,g34⟩:=x34.gf X G (ps:=["kind","p","q"]);obtain⟨f35,e35,g35⟩:=x35.gf X G (ps:=["kind","s","t"]);obtain⟨f36,e36,g36⟩:=x36.gf X G (ps:=["kind","t"]);obtain⟨f37,e37,g37⟩:=x37.gf X G (ps:=["kind","t"]);obtain⟨f38,e38,g38⟩:=x38.gf X G (ps:=["kind","t","r"]);obtain⟨f39,e39,g39⟩:=x39.gf X G (ps:=["kind","t","r"]);obtain⟨f45,e45,g45⟩:=x45.gf X G (ps:=["body","what","x"]);obtain⟨f46,e46,g46⟩:=x46.gf X G (ps:=["kind","body"]);obtain⟨f47,e47,g47⟩:=x47.gf X G (ps:=["kind","body"]);obtain⟨f48,e48,g48⟩:=x48.gf X G (ps:=["kind","body","r"]);obtain⟨f50,e50,g50⟩:=x50.gf X G (ps:=["numbers"]);obtain⟨f51,e51,g51⟩:=x51.gf X G (ps:=["numbers"]);obtain⟨f52,e52,g52⟩:=x52.gf X G (ps:=["bodies"]);obtain⟨f53,e53,g53⟩:=x53.gf X G (ps:=["kind","bodies","limit"]);obtain⟨f58,e58,g58⟩:=x58.gf X G (ps:=["kind","bodies","springs"]);obtain⟨f59,e59,g59⟩:=x59.gf X G (ps:=["kind","spring","span"]);obtain⟨f60,e60,g60⟩:=x60.gf X G (ps:=["kind","spring","span"]);obtain⟨f61,e61,g61⟩:=x61.gf X G (ps:=["kind","bodies","springs"]);obtain⟨f63,e63,g63⟩:=x63.gf X G (ps:=["kind","push","first","second","dt"]);obtain⟨f64,e64,g64⟩:=x64.gf X G (ps:=["kind","body","dt"]);obtain⟨f65,e65,g65⟩:=x65.gf X G (ps:=["body","walls"]);obtain⟨f66,e66,g66⟩:=x66.gf X G (ps:=["kind","bodies","springs","walls","dt"]);obtain⟨f67,e67,g67⟩:=x67.gf X G (ps:=["bodies"]);obtain⟨f68,e68,g68⟩:=x68.gf X G (ps:=["kind","bodies","springs","walls","n","dt"]);obtain⟨f70,e70,g70⟩:=x70.gf X G (ps:=["kind","s","x"]);obtain⟨f71,e71,g71⟩:=x71.gf X G (ps:=["kind","s","pair"]);obtain⟨f72,e72,g72⟩:=x72.gf X G (ps:=["kind","lanes"]);obtain⟨f73,e73,g73⟩:=x73.gf X G (ps:=["kind","parts","take_in"]);obtain⟨f74,e74,g74⟩:=x74.gf X G (ps:=["kind","threes"]);obtain⟨f75,e75,g75⟩:=x75.gf X G (ps:=["kind","body"]);obtain⟨f76,e76,g76⟩:=x76.gf X G (ps:=["kind","bodies"]);obtain⟨f77,e77,g77⟩:=x77.gf X G (ps:=["kind","bodies"]);obtain⟨f78,e78,g78⟩:=x78.gf X G (ps:=["kind","bodies"]);obtain⟨f79,e79,g79⟩:=x79.gf X G (ps:=["kind","bodies"]);obtain⟨f80,e80,g80⟩:=x80.gf X G (ps:=["kind","bodies","springs"]);obtain⟨f81,e81,g81⟩:=x81.gf X G (ps:=["kind","bodies","springs"]);obtain⟨f93,e93,g93⟩:=x93.gf X G (ps:=["numbers"]);obtain⟨f94,e94,g94⟩:=x94.gf X G (ps:=["kind","t"]);obtain⟨f95,e95,g95⟩:=x95.gf X G (ps:=["what"]);obtain⟨f99,e99,g99⟩:=x99.gf X G (ps:=["o"]);obtain⟨f100,e100,g100⟩:=x100.gf X G (ps:=["o"]);obtain⟨yK0,yK1,yK2,yK3,yK4,yK5,yK6,yK7,yK8,yK9,yK10,yK11,yK12,yK13,_⟩:=R.mK;obtain⟨hK0,kK0,mK0⟩:=yK0.gm (ps:=["self","digits","least","greatest","sign_bit","lanes"]);obtain⟨hK1,kK1,mK1⟩:=yK1.gm (ps:=["self","bits"]);obtain⟨hK2,kK2,mK2⟩:=yK2.gm (ps:=["self","x"]);obtain⟨hK3,kK3,mK3⟩:=yK3.gm (ps:=["self","x"]);obtain⟨hK4,kK4,mK4⟩:=yK4.gm (ps:=["self","m","e"]);obtain⟨hK5,kK5,mK5⟩:=yK5.gm (ps:=["self","x","y"]);obtain⟨hK6,kK6,mK6⟩:=yK6.gm (ps:=["self","x","y"]);obtain⟨hK7,kK7,mK7⟩:=yK7.gm (ps:=["self","x","y"]);obtain⟨hK8,kK8,mK8⟩:=yK8.gm (ps:=["self","x","y"]);obtain⟨hK9,kK9,mK9⟩:=yK9.gm (ps:=["self","x"]);obtain⟨hK10,kK10,mK10⟩:=yK10.gm (ps:=["self","x","y","z"]);obtain⟨hK11,kK11,mK11⟩:=yK11.gm (ps:=["self","x","y","z"]);obtain⟨hK12,kK12,mK12⟩:=yK12.gm (ps:=["self","x","y","z"]);obtain⟨hK13,kK13,mK13⟩:=yK13.gm (ps:=["self","x","y","z"]);obtain⟨yB0,yB1,_⟩:=R.mB;obtain⟨Lu,kB0,mB0⟩:=yB0.gm (ps:=["self","numbers"]);obtain⟨Lv,kB1,mB1⟩:=yB1.gm (ps:=["self"]);obtain⟨yMo0,_⟩:=R.mMo;obtain⟨hMo0,kMo0,mMo0⟩:=yMo0.gm (ps:=["self","kind","body"]);obtain⟨yPt0,_⟩:=R.mPt;obtain⟨hPt0,kPt0,mPt0⟩:=yPt0.gm (ps:=["self","kind","motion","r"]);obtain⟨ySp0,_⟩:=R.mSp;obtain⟨hSp0,kSp0,mSp0⟩:=ySp0.gm (ps:=["self","first","second","numbers"]);obtain⟨ySn0,_⟩:=R.mSn;obtain⟨hSn0,kSn0,mSn0⟩:=ySn0.gm (ps:=["self","kind","spring","first_motion","second_motion"]);obtain⟨yPu0,_⟩:=R.mPu;obtain⟨hPu0,kPu0,mPu0⟩:=yPu0.gm (ps:=["self","first_arm","second_arm","force"]);obtain⟨yS0,yS1,yS2,yS3,yS4,yS5,yS6,yS7,yS8,yS9,yS10,yS11,yS12,yS13,yS14,yS15,_⟩:=R.mS;obtain⟨hS0,kS0,mS0⟩:=yS0.gm (ps:=["self","kind"]);obtain⟨LC,kS1,mS1⟩:=yS1.gm (ps:=["self","row"]);obtain⟨hS2,kS2,mS2⟩:=yS2.gm (ps:=["self","numbers"]);obtain⟨hS3,kS3,mS3⟩:=yS3.gm (ps:=["self","i"]);obtain⟨hS4,kS4,mS4⟩:=yS4.gm (ps:=["self","first","n"]);obtain⟨hS5,kS5,mS5⟩:=yS5.gm (ps:=["self","row"]);obtain⟨hS6,kS6,mS6⟩:=yS6.gm (ps:=["self","i","j","row"]);obtain⟨hS7,kS7,mS7⟩:=yS7.gm (ps:=["self","row"]);obtain⟨hS8,kS8,mS8⟩:=yS8.gm (ps:=["self","n","bits"]);obtain⟨hS9,kS9,mS9⟩:=yS9.gm (ps:=["self","first","n","what"]);obtain⟨hS10,kS10,mS10⟩:=yS10.gm (ps:=["self","first","what","row"]);obtain⟨hS11,kS11,mS11⟩:=yS11.gm (ps:=["self"]);obtain⟨hS12,kS12,mS12⟩:=yS12.gm (ps:=["self"]);obtain⟨hS13,kS13,mS13⟩:=yS13.gm (ps:=["self","bits","most"]);obtain⟨hS14,kS14,mS14⟩:=yS14.gm (ps:=["self","first","n","row"]);obtain⟨hS15,kS15,mS15⟩:=yS15.gm (ps:=["self","first","n","other"]);obtain⟨yR0,yR1,yR2,yR3,_⟩:=R.mR;obtain⟨hR0,kR0,mR0⟩:=yR0.gm (ps:=["self","calls"]);obtain⟨hR1,kR1,mR1⟩:=yR1.gm (ps:=["self"]);obtain⟨hR2,kR2,mR2⟩:=yR2.gm (ps:=["self"]);obtain⟨hR3,kR3,mR3⟩:=yR3.gm (ps:=["self"]);have nn:=λf hf=>PySem.W.mg_none_of X G<|List.map_inj_left.mp R.bl f hf;have TC:jB mg:=⟨nn _ dk,nn _ dk,nn _ dk,nn _ dk,nn _ dk,nn _ dk,nn _ dk⟩;have na:=R.tK.na;have TK:jg K mg d.F d.K:=⟨⟨R.fe⟩,ui X G R.fn,R.tK.cl,na _ dk,na _ dk,na _ dk,na _ dk,na _ dk,ui X G R.tK.ns,R.pz.tu X G,R.mz.tu X G,nn _ dk,nn _ dk⟩;have nb:=R.tB.na;have TB:iU K mg d.B:=⟨R.tB.cl,nb _ dk,nb _ dk,nb _ dk,nb _ dk,nb _ dk,nb _ dk,nb _ dk⟩;have TM:=R.tMo.tx X G;have TP:=R.tPt.tx X G;have TS:=R.tSp.tx X G;have TN:=R.tSn.tx X G;have TU:=R.tPu.tx X G;have T:=R.tS.tx X G;have TR:=R.tR.tx X G;have mB:=ui X G R.tB.ns;have hH:=R.hf.tu X G;have wb:GN K mg d.F d.K:=⟨TK,⟨_,_,g6⟩,⟨_,_,g7⟩,⟨_,_,g10⟩,⟨_,_,g11⟩,⟨_,_,mK4⟩,_,_,mK5⟩;have jd:KM P w K mg base d.F d.K:=⟨TK,mK5.a dc λk=>ok_plusN mK5.F TK g6 mK4 k,mK6.a dc λk=>ok_minus mK6.F wb k,mK7.a dc λk=>ok_times mK7.F wb k,mK8.a dc λk=>ok_over mK8.F wb k,mK9.a dc λk=>ok_root mK9.F wb g12 k,mK10.a dc λk=>ok_fused mK10.F wb k,mK11.a dc λk=>ok_fusedLess mK11.F wb k,mK12.a dc λk=>ok_lessFused mK12.F wb k,mK13.a dc λk=>ok_fusedOpp mK13.F wb k⟩;have V:VM P w K mg base d.F d.K:=⟨jd,g17.a dc λk=>ok_added g17.F jd k,g18.a dc λk=>ok_taken_off g18.F jd k,g19.a dc λk=>ok_each_times g19.F jd k,g20.a dc λk=>ok_scaled g20.F jd k,g21.a dc λk=>ok_divided g21.F jd k,g22.a dc λk=>ok_along g22.F jd k,g23.a dc λk=>ok_against g23.F jd k,g24.a dc λk=>ok_dot g24.F jd k,g28.a dc λk=>ok_cross g28.F jd g25 g26 k,g29.a dc λk=>ok_moment g29.F jd g25 g27 k⟩;have XT:KC K mg:=⟨R.qu.tu X G,R.gs.tu X G⟩;have QF:cX P w K mg base d.F 10 "made_one_long" ["kind","t"] λk=>Jc K d.F d.K k<|yD k:=g37.a dc λk=>ok_mol g37.F jd XT g36 g9 k;have B:BM P w K mg base d.F d.K d.B:=⟨V,TB,g38.a dc λk=>MW g38.F V k,g46.a dc λk=>ok_hf g46.F V TB k,g47.a dc λk=>ok_ht g47.F V TB g38 g39 g7 k,g35.a dc λk=>ok_tp g35.F jd g33 g34 k,QF⟩;have OB:∀k,aD P w K mg base (aQ P w d.F) 10 Lu kB0 ["self","numbers"]<|Fg K d.F d.B k:=λk=>ok_binit mB0.F TC TB k;have rS:∀k,aD P w K mg base (aQ P w d.F) 10 Lv kB1 ["self"]<|vN K d.F d.B k:=λk=>ok_twenty mB1.F TB k;have OM:∀k,aD P w K mg base (aQ P w d.F) 12 hMo0 kMo0 ["self","kind","body"]<|Oh K d.F d.K d.B CM k:=λk=>ok_minit mMo0.F B TM k;have OP:∀k,aD P w K mg base (aQ P w d.F) 12 hPt0 kPt0 ["self","kind","motion","r"]<|Oq K d.F d.K CM CP k:=λk=>ok_pinit mPt0.F B TP TM k;have ON:∀k,aD P w K mg base (aQ P w d.F) 16 hSn0 kSn0 ["self","kind","spring","first_motion","second_motion"]<|Ol K d.F d.K d.S CM CN CP k:=λk=>ok_ninit mSn0.F B TN TS TP Hz (R.tPt.pY mPt0) OP mPt0.b k;have OU:∀k,aD P w K mg base (aQ P w d.F) 12 hPu0 kPu0 ["self","first_arm","second_arm","force"]<|OC K d.F CU k:=λk=>ok_uinit mPu0.F TU k;have OS:∀k,aD P w K mg base (aQ P w d.F) 12 hSp0 kSp0 ["self","first","second","numbers"]<|Ox K d.F d.S k:=λk=>ok_sinit mSp0.F TC TS k;have Qz:cX P w K mg base d.F 20 "find_spans" ["kind","bodies","springs"] λk=>Je K d.F d.K d.B d.S CN CP k:=g58.a dc λk=>ok_findSpans g58.F TS TN TM (R.tMo.pY mMo0) OM mMo0.b (R.tSn.pY mSn0) ON mSn0.b k;have Y9:cX P w K mg base d.F 20 "stretch" ["kind","spring","span"] λk=>Oz K d.F d.K d.S CN CP k:=g59.a dc λk=>UI g59.F B TS TN k;have Y4:cX P w K mg base d.F 24 "find_push" ["kind","spring","span"] λk=>Ob K d.F d.K d.S CN CP CU k:=g60.a dc λk=>ok_findPush g60.F B TS TN TP TU g59 (R.tPu.pY mPu0) OU mPu0.b k;have Y5:cX P w K mg base d.F 30 "find_pushes" ["kind","bodies","springs"] λk=>Oc K d.F d.K d.B d.S CU k:=g61.a dc λk=>ok_findPushes g61.F TC Qz Y4 k;have Y6:cX P w K mg base d.F 34 "one_step" ["kind","bodies","springs","walls","dt"] λk=>Oo K d.F d.K d.B d.S k:=g66.a dc λk=>ok_oneStep g66.F TC B TS mB (R.tB.pY mB0) OB mB0.b mB1.aJ rS mB1.b Y5 (g63.a dc λk=>ok_doPush g63.F B TU k) (g64.a dc λk=>ok_move g64.F B hH (R.on.tu X G) k) (g65.a dc λk=>ok_keep g65.F TC TB g9 g8 g7 g6 k) k;have Y8:cX P w K mg base d.F 38 "several_steps" ["kind","bodies","springs","walls","n","dt"] λk=>Ji K d.F d.K d.B d.S k:=g68.a dc λk=>ok_several g68.F TC Y6 (g67.a dc λk=>ok_allTw g67.F TB mB1.aJ rS mB1.b k) k;have Y7:cX P w K mg base d.F 18 "side_by_side" ["kind","parts","take_in"] λk=>zZ K d.F d.K f70 k (RC K k)<|eY k:=g73.a dc λk=>UH g73.F TC jd g72 k dw.i _ (ok_wn g70.F jd k) g70.F.kp g70.b;have KI:cX P w K mg base d.F 18 "side_by_side" ["kind","parts","take_in"] λk=>zZ K d.F d.K f71 k (jf K k)<|fj k:=g73.a dc λk=>UH g73.F TC jd g72 k D8.i _ (ok_wp g71.F jd k) g71.F.kp g71.b;have a3:cX P w K mg base d.F 20 "sum_of_threes" ["kind","threes"] λk=>Jj K d.F d.K k:=g74.a dc λk=>ok_sumThrees g74.F TC g70 Y7 k;have Zz:cX P w K mg base d.F 34 "ten_sums" ["kind","bodies","springs"] λk=>Jk K d.F d.K d.B d.S k:=g81.a dc λk=>ok_tenSums g81.F jd (g78.a dc λk=>ok_enW g78.F B hH g71 KI k) (g79.a dc λk=>ok_enT g79.F B hH g71 KI k) (g80.a dc λk=>ok_enS g80.F TC B TS hH g71 Qz Y9 KI k) (g76.a dc λk=>ok_wholeMo g76.F TB a3 k) (g77.a dc λk=>ok_wholeSp g77.F a3 (g75.a dc λk=>ok_spinZero g75.F B k) k) k;have Y_:cX P w K mg base d.F 20 "box_of" ["bodies"] λk=>N9 K d.F d.B k:=g52.a dc λk=>ok_box g52.F TC TB (g50.a dc λk=>ok_least g50.F g9 k) (g51.a dc λk=>ok_greatest g51.F g9 k) k;have Ze:cX P w K mg base d.F 12 "point_place" ["kind","body","r"] λk=>Jh K d.F d.K d.B k:=g48.a dc λk=>ok_pointPlace g48.F B (g38.a dc λk=>ok_tuS g38.F V (g28.a dc λk=>ok_crossS g28.F jd g25 g26 k) (g22.a dc λk=>ok_alongS g22.F jd k) k) k;have qH:SX P w K mg base d:={TC:=TC,TK:=TK,T:=T,TB:=TB,mB:=mB,B:=⟨_,_,R.tB.pY mB0,mB0.b,OB⟩,tw:=⟨_,_,mB1.aJ,mB1.b,rS⟩,mS:=TS.m,S:=⟨_,_,R.tSp.pY mSp0,mSp0.b,OS⟩,rn:=mS1.s λk=>ok_readNumbers mS1.F TK T mK1 k,ab:=mS2.s λk=>ok_allBits mS2.F TK T mK2 k,hb:=mS3.s λk=>ok_hasBody mS3.F TC T k,yZ:=mS4.s λk=>ok_hasBodies mS4.F TC T k,fb:=mK1.a dc λk=>(UD mK1.F TK k).gz,nb:=λk=>mK3.a dc λj=>ok_nearest mK3.F TK g6 mK4 mK2 k j,QQ:=⟨_,_,g9⟩,any:=g93.a dc λk=>ok_anyBelow g93.F TC TK g9 k,us:=g94.a dc λk=>ok_usable g94.F TK XT (R.fo.tu X G) g9 (g36.a dc λk=>UL g36.F jd k) k,Ti:=QF,ip:=g95.a dc λ_=>ok_isPut g95.F<|R.cBN.gi X G,ss:=Y8,WX:=Zz,bx:=Y_,sl:=g53.a dc λk=>ok_slow g53.F TC B g9 k,pp:=Ze,wi:=g45.a dc λk=>ok_with g45.F TC TB mB (R.tB.pY mB0) OB mB0.b mB1.aJ rS mB1.b k,cNR:=R.cNR.gi X G,cNB:=R.cNB.gi X G,cOR:=R.cOR.gi X G,cBN:=R.cBd.gi X G,cSF:=R.cSF.gi X G,cMB:=R.cMB.gi X G,cMS:=R.cMS.gi X G,cMT:=R.cMT.gi X G,Q5:=R.cMo4.gi X G,cB:=R.cBN.gi X G,TJ:=N.kc,TH:=N.bc,TQ:=N.sc};have OD:aD P w K mg base (aQ P w d.F) 3 f14 e14 []<|xT d.F d.K Aw:=(ok_mkD g14.F TK (R.tK.pY mK0) mK0.F mK0.b).gz;have OZ:aD P w K mg base (aQ P w d.F) 3 f15 e15 []<|xT d.F d.K Ay:=(ok_mkS g15.F TK (R.tK.pY mK0) mK0.F mK0.b).gz;exact{TC:=TC,TK:=TK,T:=T,TR:=TR,N:=N,ri:=⟨_,_,R.tR.pY mR0,mR0.b,ok_rinit mR0.F TR⟩,dn:=mR1.r<|ok_done mR1.F TC TR,tk:=mR2.r<|UJ mR2.F TR,tr:=mR3.r<|ok_takeRow mR3.F TR mR2,ci:=⟨_,_,R.tS.pY mS0,mS0.b,λk=>ok_cinit mS0.F T k⟩,ko:=g99.h<|ok_kindOf g99.F g14.m g14.F.kp g14.b OD g15.m g15.F.kp g15.b OZ,ot:=g100.h<|ok_otherKind g100.F g14.m g14.F.kp g14.b OD g15.m g15.F.kp g15.b OZ,ad:=mS5.s λk=>ok_addBody mS5.F qH k,as:=mS6.s λk=>ok_addSpring mS6.F qH k,sw:=mS7.s λk=>ok_setWalls mS7.F qH k,se:=mS8.s λk=>ok_step mS8.F qH k,te:=mS9.s λk=>ok_tell mS9.F qH k,pu:=mS10.s λk=>ok_put mS10.F qH k,su:=mS11.s λk=>ok_sumsS mS11.F qH k,bo:=mS12.s λk=>ok_boxS mS12.F qH k,so:=mS13.s λk=>ok_slowS mS13.F qH k,po:=mS14.s λk=>ok_points mS14.F qH k,fr:=mS15.s λk=>ok_frame mS15.F qH k}
theorem Zd{fa:ak}(X:K.In h)(G:h.Ns ee mg)(LG:mg "answers"=L (.ref fa))(N:px d)(Hz:CP≠CN)(R:Kw K d.F d.K d.B d.S d.C d.R CM CP CN CU):∃fd:c7,(∀(s:c_)(us:af aH),us.length=(["calls"]:af ax).length->yc s fd ⟨us,[]⟩ ((["calls"]:af ax).zip us))/\ ∀base:b9,K.In base->base.Ns ee mg->aD P w K mg base (aQ P w d.F) 60 fa fd ["calls"] (spAns K):=by
 obtain⟨_,_,_,_,_,_,_,_,_,_,_,_,_,_,_,_,x101,x102,x103,x104,x105,x106,x107,x108,_⟩:=R.d2;obtain⟨Xm,x110,x111,x112,x114,_⟩:=R.d3;obtain⟨f101,e101,g101⟩:=x101.gf X G (ps:=["scenes","reader"]);obtain⟨f102,e102,g102⟩:=x102.gf X G (ps:=["scenes","reader"]);obtain⟨f103,e103,g103⟩:=x103.gf X G (ps:=["scenes","reader"]);obtain⟨f104,e104,g104⟩:=x104.gf X G (ps:=["scenes","reader"]);obtain⟨f105,e105,g105⟩:=x105.gf X G (ps:=["scenes","reader"]);obtain⟨f106,e106,g106⟩:=x106.gf X G (ps:=["scenes","reader"]);obtain⟨f107,e107,g107⟩:=x107.gf X G (ps:=["scenes","reader"]);obtain⟨f108,e108,g108⟩:=x108.gf X G (ps:=["scenes","reader"]);obtain⟨f109,e109,g109⟩:=Xm.gf X G (ps:=["scenes","reader"]);obtain⟨f110,e110,g110⟩:=x110.gf X G (ps:=["scenes","reader"]);obtain⟨f111,e111,g111⟩:=x111.gf X G (ps:=["scenes","reader"]);obtain⟨f112,e112,g112⟩:=x112.gf X G (ps:=["scenes","reader"]);obtain⟨f,oc,od,kV,dX,pm,an,cd,ct,sl,a,l,c,k⟩:=x114;have e:=LG.symm.trans<|ui X G a
 cases e
 obtain⟨ca,en,c1,kd,c2⟩:=R.ca;refine⟨_,λs us hu=>match us,hu with|[_],_=>.of_eq J,λbase _ _=>ok_answers (Li (st:=aO 114) l c k) (QD X G N Hz R) (ui X G c1) kd λc h0 qL=>?_⟩;have d5:∀(x:ax)(c:ae){f:ak}{fd:c7}{st:dq},(x,c)∈(_:af<|ax×ae)->Gf K mg x st f fd ["scenes","reader"]->aD P w K mg base (aQ P w d.F) 56 f fd ["scenes","reader"] (jN K d c)-> ∃fc yQ,DD qP en (eU c)=L (.ref fc)/\aD P w K mg base (aQ P w d.F) 56 fc yQ ["scenes","reader"] (jN K d c)/\jx K (.ref fc)=ao/\Binds K yQ ["scenes","reader"] []:=λx c f fd st hm g je=>by
  obtain⟨f',e1,e2⟩:=c2 _ hm;have e:=g.m.symm.trans<|ui X G e1
  cases e
  exact⟨f,fd,e2,je,g.F.kp,g.b⟩
 have pd:HX P w K mg base d:=QD X G N Hz R;have cs:c=0\/c=1\/c=2\/c=3\/c=4\/c=5\/c=6\/c=7\/c=8\/c=9\/c=10\/c=11:=by lia
 rcases cs with rfl|rfl|rfl|rfl|rfl|rfl|rfl|rfl|rfl|rfl|rfl|rfl
 ·exact d5 _ _ dk g101<|ok_begin g101.F pd
 ·exact d5 _ _ dk g102<|ok_body g102.F pd
 ·exact d5 _ _ dk g103<|ok_spring g103.F pd
 ·exact d5 _ _ dk g104<|ok_walls g104.F pd
 ·exact d5 _ _ dk g105<|ok_stepH g105.F pd
 ·exact d5 _ _ dk g106<|ok_get g106.F pd
 ·exact d5 _ _ dk g107<|ok_putH g107.F pd
 ·exact d5 _ _ dk g108<|ok_sumsH g108.F pd
 ·exact d5 _ _ dk g109<|ok_boxH g109.F pd
 ·exact d5 _ _ dk g110<|ok_slowH g110.F pd
 ·exact d5 _ _ dk g111<|ok_pointsH g111.F pd
 ·exact d5 _ _ dk g112<|ok_frameH g112.F pd
end
end BW
namespace L2
open PySem PySem.Spec PyProof.Rows
open PySem.W (WData Codec OpenSpec)
def CXe(P:cO)(w:World):o8:=λbA H s E e s'=>∃C,aQ P w C bA H s E e s'
theorem aD.Z1{K:aq}(F:aD P w K mg base (aQ P w C) k f fd ps sp):aD P w K mg base (CXe P w) k f fd ps sp:=⟨F.bH,λA bA s H kh us vs Q E hr he hb hv hs=>yN (F.run A bA s H kh us vs Q E hr he hb hv hs) λr s' q=>by
                                                                                                           cases r with
                                                                                                           |error e=>exact⟨C,q⟩
                                                                                                           |ok fl=>cases fl<;>exact q⟩
theorem walk_specW{K:Params->aq}{CX:World->o8}{sp:aq->Sp}
 (LY:r.wellSaid=ao) (So:d.params.defaults=[]) (dJ:r.args.length=ps.length) (hr:eF k Dq)
 (hY:∀w h,YP w h->(K w.params).In h)
 (F:∀w mg fa h,YP w h->(K w.params).In h->h.Ns ee mg->mg d.name=L (.ref fa)-> ∃fd,(∀s us,us.length=ps.length->yc s fd ⟨us,[]⟩ (ps.zip us))/\ ∀base,(K w.params).In base->base.Ns ee mg->aD r.prog w (K w.params) mg base (CX w) k fa fd ps (sp<|K w.params))
 (iL:∀K H xs a,An H->XE r.args a=ao->JU r.args r.asked a=ao->o_ K H xs (Fz r.args a)->sp K xs H (λv H'=>Dw K H' v (r.ret.enc<|JU r.args r.f a)) λ_ _ _=>e_)
 (DI:∀w H s e s',CX w [] H s (λ_ _ _=>e_) e s'->e_):
 YG q loose XP YP r d [] λf vs=>YQ f vs:=walk_spec LY So dJ hr hY F (λw H xs a h1 h2 h3 h4=>iL _ H xs a h1 h2 h3 h4) DI
end L2
namespace BW
open PySem PySem.Spec PyProof.Rows L2
open PySem.W (nsIn)
section
variable{K:aq}
theorem tA(h:g_ K ee x=L (L<|.ref a))(l:K.lookup a=L ⟨.type "tuple",od,.seq #[.int i t,.int j u] n,sl⟩):TupAt K x i j:=⟨_,_,_,_,_,_,h,l⟩
theorem iA(h:g_ K ee x=L (L<|.int i t)):mZ K x i:=⟨_,h⟩
theorem cA(h:g_ K ee "CALLS"=L (L<|.ref a))
 (l:K.lookup a=L ⟨.type "dict",ah,.dict #[⟨oG 0,.int 0 t0,.ref f0⟩,⟨oG 1,.int 1 t1,.ref f1⟩,⟨oG 2,.int 2 t2,.ref f2⟩,⟨oG 3,.int 3 t3,.ref f3⟩,⟨oG 4,.int 4 t4,.ref f4⟩,⟨oG 5,.int 5 t5,.ref f5⟩,⟨oG 6,.int 6 t6,.ref f6⟩,⟨oG 7,.int 7 t7,.ref f7⟩,⟨oG 8,.int 8 t8,.ref f8⟩,⟨oG 9,.int 9 t9,.ref f9⟩,⟨oG 10,.int 10 t10,.ref Rw⟩,⟨oG 11,.int 11 t11,.ref Rx⟩] ep,#[]⟩)
 (h0:g_ K ee "begin"=L (L<|.ref f0)) (h1:g_ K ee "body"=L (L<|.ref f1)) (h2:g_ K ee "spring"=L (L<|.ref f2)) (h3:g_ K ee "walls"=L (L<|.ref f3)) (h4:g_ K ee "step"=L (L<|.ref f4)) (h5:g_ K ee "get"=L (L<|.ref f5)) (h6:g_ K ee "put"=L (L<|.ref f6)) (h7:g_ K ee "sums"=L (L<|.ref f7)) (h8:g_ K ee "box"=L (L<|.ref f8)) (h9:g_ K ee "slow"=L (L<|.ref f9)) (sG:g_ K ee "points"=L (L<|.ref Rw)) (qL:g_ K ee "frame"=L (L<|.ref Rx)):
 ∃(a:ak)(en:jv yd),g_ K ee "CALLS"=L (L<|.ref a)/\FH K a en/\ ∀p∈([("begin",0),("body",1),("spring",2),("walls",3),("step",4),("get",5),("put",6),("sums",7),("box",8),("slow",9),("points",10),("frame",11)]:af<|ax×ae),∃f,g_ K ee p.1=L (L<|.ref f)/\DD qP en (eU p.2)=L (.ref f):=by
 refine⟨a,_,h,⟨⟨ep,l⟩,λe he=>?_⟩,λp hp=>?_⟩
 ·simp[List.mem_toArray,J',PR,or_false] at he
  rcases he with rfl|rfl|rfl|rfl|rfl|rfl|rfl|rfl|rfl|rfl|rfl|rfl<;>exact⟨_,_,rfl,rfl⟩
 ·simp[J',PR,or_false] at hp
  rcases hp with rfl|rfl|rfl|rfl|rfl|rfl|rfl|rfl|rfl|rfl|rfl|rfl
  ·exact⟨_,h0,J⟩
  ·exact⟨_,h1,J⟩
  ·exact⟨_,h2,J⟩
  ·exact⟨_,h3,J⟩
  ·exact⟨_,h4,J⟩
  ·exact⟨_,h5,J⟩
  ·exact⟨_,h6,J⟩
  ·exact⟨_,h7,J⟩
  ·exact⟨_,h8,J⟩
  ·exact⟨_,h9,J⟩
  ·exact⟨_,sG,J⟩
  ·exact⟨_,qL,J⟩
end
theorem laf_of{K:aq}(o:An H)(h:SqL K H a xs):t_ K H a xs:=h.imp (λh=>by
 rcases h with h|h
 ·rcases o a with z|⟨ob,u,z⟩
  ·rw[h] at z;cases z
  ·rw[h] at z;cases z
 ·exact h) λh=>h
theorem all_mk'{K:aq}(X:K.In h)(G:h.Ns ee mg)(LG:mg "answers"=L (.ref fa))(R:Kw K cF cK cB cS cC cR CM CP CN CU)(ne:[cK,cB,cS,cC,cR,CP,CN].Nodup):∃fd,(∀s us,us.length=(["calls"]:af ax).length->yc s fd ⟨us,[]⟩ ((["calls"]:af ax).zip us))/\ ∀base,K.In base->base.Ns ee mg->aD P w K mg base (CXe P w) 60 fa fd ["calls"] (spAns K):=by
 simp only[List.nodup_cons,J',PR,or_false,not_or] at ne;obtain⟨fd,h1,h2⟩:=Zd (d:=⟨cF,cK,cB,cS,cC,cR⟩) X G LG ⟨ne.1.2.2.2.1,ne.2.1.2.2.1,ne.2.2.1.2.1,ne.2.2.2.1.1,ne.1.2.2.1,ne.2.1.2.1,ne.2.2.1.1⟩ ne.2.2.2.2.2.1 R;exact⟨fd,h1,λbase a b=>(h2 base a b).Z1⟩
end BW
end
namespace PySem.W.Fast
theorem tw17921135350099760632:True:=⟨⟩
theorem tw1616852374072619409:True:=⟨⟩
theorem tw3302716581631720308:True:=⟨⟩
theorem tw9397549252657495451:True:=⟨⟩
theorem tw8183818413246602134:True:=⟨⟩
theorem tw17406201958988223702:True:=⟨⟩
theorem tw6577828466317094085:True:=⟨⟩
theorem tw8603025182489703556:True:=⟨⟩
theorem tw15711282772884914828:True:=⟨⟩
theorem tw3235182817607744168:True:=⟨⟩
theorem tw1977123481839264017:True:=⟨⟩
theorem tw11854809874536198702:True:=⟨⟩
theorem tw17605428399829533176:True:=⟨⟩
theorem tw7632534328471158233:True:=⟨⟩
theorem tw6446779556425106333:True:=⟨⟩
theorem tw10073151906342544314:True:=⟨⟩
theorem tw16569049360015206430:True:=⟨⟩
theorem tw13953584627187273067:True:=⟨⟩
theorem tw3864454396119443512:True:=⟨⟩
theorem tw5477828684210865978:True:=⟨⟩
theorem tw3368506607105475005:True:=⟨⟩
theorem tw14645735187405758705:True:=⟨⟩
theorem tw8122948037036307112:True:=⟨⟩
theorem tw1151030565582287434:True:=⟨⟩
theorem tw9039802311755244150:True:=⟨⟩
theorem tw8271935643109082315:True:=⟨⟩
theorem tw14828607604079729087:True:=⟨⟩
theorem tw714985401496378999:True:=⟨⟩
theorem tw5321260158005037522:True:=⟨⟩
theorem tw16445358930360060000:True:=⟨⟩
theorem tw7298419947449052301:True:=⟨⟩
theorem tw180752819418647496:True:=⟨⟩
theorem tw6119977413651398881:True:=⟨⟩
theorem tw5957062700875805266:True:=⟨⟩
theorem tw16301298190362763131:True:=⟨⟩
theorem tw16865673485615332006:True:=⟨⟩
theorem tw1951150683628846864:True:=⟨⟩
theorem tw3113329968879864983:True:=⟨⟩
theorem tw3820273827244517284:True:=⟨⟩
theorem tw8087562277901250819:True:=⟨⟩
theorem tw11283523604916711077:True:=⟨⟩
theorem tw415345538736791558:True:=⟨⟩
theorem tw5310129332439379058:True:=⟨⟩
theorem tw5595616103541816264:True:=⟨⟩
theorem tw15142629630149948777:True:=⟨⟩
theorem tw11146759078070477466:True:=⟨⟩
theorem tw8901848232587943216:True:=⟨⟩
theorem tw17586427084588687760:True:=⟨⟩
theorem tw14933168347070873174:True:=⟨⟩
theorem tw11075417981076951734:True:=⟨⟩
theorem tw12494462676558283430:True:=⟨⟩
theorem tw14385471908872724763:True:=⟨⟩
theorem tw13543244374098673019:True:=⟨⟩
theorem tw13754814815037557747:True:=⟨⟩
theorem tw11882308995433893691:True:=⟨⟩
theorem tw10960568770902674325:True:=⟨⟩
theorem tw371514209302910509:True:=⟨⟩
theorem tw6610045924208221522:True:=⟨⟩
theorem tw5895271221105690708:True:=⟨⟩
theorem tw8810017691285206436:True:=⟨⟩
theorem tw8687993014494420811:True:=⟨⟩
theorem tw16918289163934736134:True:=⟨⟩
theorem tw11792842974266034868:True:=⟨⟩
theorem tw4913162865272010973:True:=⟨⟩
theorem tw4788083156764878218:True:=⟨⟩
theorem tw4832958989849778788:True:=⟨⟩
theorem tw4587790368657903180:True:=⟨⟩
theorem tw14293065822779026915:True:=⟨⟩
theorem tw8336248515898171029:True:=⟨⟩
theorem tw4482391838643873641:True:=⟨⟩
theorem tw10362169681427209787:True:=⟨⟩
theorem tw12397812028023061292:True:=⟨⟩
theorem tw14201319090902831280:True:=⟨⟩
theorem tw5583914083748605436:True:=⟨⟩
theorem tw11408252365794545606:True:=⟨⟩
theorem tw17699409101678510243:True:=⟨⟩
theorem tw16321814794271151270:True:=⟨⟩
theorem tw17218000160415200386:True:=⟨⟩
theorem tw9307670301404669622:True:=⟨⟩
theorem tw9349568166508289290:True:=⟨⟩
theorem tw11187133327376922981:True:=⟨⟩
theorem tw1700384296518446610:True:=⟨⟩
theorem tw13720252351224770899:True:=⟨⟩
theorem tw2298605281277762795:True:=⟨⟩
theorem tw15119236670978709171:True:=⟨⟩
theorem tw5008130830929359468:True:=⟨⟩
theorem tw9675243668255623067:True:=⟨⟩
theorem tw8958811737465190637:True:=⟨⟩
theorem tw17337445809561069893:True:=⟨⟩
theorem tw11088350255950350120:True:=⟨⟩
theorem tw10858639802363058964:True:=⟨⟩
theorem tw7503266250469591087:True:=⟨⟩
theorem tw864628860508953989:True:=⟨⟩
theorem tw12546002251767745160:True:=⟨⟩
theorem tw17131908270856864006:True:=⟨⟩
theorem tw10310760601998209642:True:=⟨⟩
theorem tw6153047384405653833:True:=⟨⟩
theorem tw1074395487801981951:True:=⟨⟩
theorem tw11285869857344922224:True:=⟨⟩
theorem tw4465049898896422866:True:=⟨⟩
theorem tw12830504363421211515:True:=⟨⟩
theorem tw7463476244836132533:True:=⟨⟩
theorem tw18203707332659494868:True:=⟨⟩
theorem tw18247102464223949284:True:=⟨⟩
theorem tw7886678810555922865:True:=⟨⟩
theorem tw5672467761040186050:True:=⟨⟩
theorem tw5074694726090933557:True:=⟨⟩
theorem tw2586866528009920489:True:=⟨⟩
theorem tw1593928322019323850:True:=⟨⟩
theorem tw1991487113645090078:True:=⟨⟩
theorem tw6420705836410931587:True:=⟨⟩
theorem tw6709961791038792838:True:=⟨⟩
theorem tw14098491775465147560:True:=⟨⟩
theorem tw5384899615255011095:True:=⟨⟩
theorem tw12181499017054755355:True:=⟨⟩
theorem tw16629954070763334435:True:=⟨⟩
theorem tw16214989874007291033:True:=⟨⟩
theorem tw10023595353967913976:True:=⟨⟩
theorem tw10232869453815550344:True:=⟨⟩
theorem tw16586775934131706711:True:=⟨⟩
theorem tw15248784220423712466:True:=⟨⟩
theorem tw14451634904737906107:True:=⟨⟩
theorem tw4551222640837468750:True:=⟨⟩
theorem tw4870232616756014685:True:=⟨⟩
theorem tw3964444346204422827:True:=⟨⟩
theorem tw12415518343418337071:True:=⟨⟩
theorem tw6777658758468317948:True:=⟨⟩
theorem tw2731088367842632794:True:=⟨⟩
theorem tw7844972969002471239:True:=⟨⟩
theorem tw7910328715982836118:True:=⟨⟩
theorem tw15516996630893010137:True:=⟨⟩
theorem tw10862049768456402018:True:=⟨⟩
theorem tw16559668480081959070:True:=⟨⟩
theorem tw16841441822106938348:True:=⟨⟩
theorem tw12190046587998340651:True:=⟨⟩
theorem tw3278027875345162885:True:=⟨⟩
theorem tw16213513102261437692:True:=⟨⟩
theorem tw14024330732106130023:True:=⟨⟩
theorem tw17878495288116268713:True:=⟨⟩
theorem tw13501749865955348142:True:=⟨⟩
theorem tw9364555883738854340:True:=⟨⟩
theorem tw7805726130382203532:True:=⟨⟩
theorem tw7047454163274342869:True:=⟨⟩
theorem tw7507662877932366664:True:=⟨⟩
theorem tw4744931472584261579:True:=⟨⟩
theorem tw17995773380743141694:True:=⟨⟩
theorem tw15816321957801358325:True:=⟨⟩
theorem tw6460524781487327547:True:=⟨⟩
theorem tw7810613770043431142:True:=⟨⟩
theorem tw16683842658199714170:True:=⟨⟩
theorem tw626996590780868303:True:=⟨⟩
theorem tw1146999909793121470:True:=⟨⟩
theorem tw5384499158785382047:True:=⟨⟩
theorem tw15672556692842759602:True:=⟨⟩
theorem tw9000973996867204073:True:=⟨⟩
theorem tw2396282550620668299:True:=⟨⟩
theorem tw14588995176686987570:True:=⟨⟩
theorem tw9566369555515202571:True:=⟨⟩
theorem tw9582217939468611024:True:=⟨⟩
theorem tw18274546466218887796:True:=⟨⟩
theorem tw2048930012711001144:True:=⟨⟩
theorem tw9609169678323156960:True:=⟨⟩
theorem tw8095686866262566306:True:=⟨⟩
theorem tw14343722768760136989:True:=⟨⟩
theorem tw9771642839506263037:True:=⟨⟩
theorem tw8478302980397601773:True:=⟨⟩
theorem tw4068958767506116504:True:=⟨⟩
theorem tw16155390347756766757:True:=⟨⟩
theorem tw11999806221016113511:True:=⟨⟩
theorem tw14425672607935972784:True:=⟨⟩
theorem tw16317985406475402268:True:=⟨⟩
theorem tw16305809824713203052:True:=⟨⟩
theorem tw13791524663871028320:True:=⟨⟩
theorem tw8265786699740828029:True:=⟨⟩
theorem tw18177656731008463172:True:=⟨⟩
theorem tw1813740475715687621:True:=⟨⟩
theorem tw9112110198621125572:True:=⟨⟩
theorem tw5434601186145059565:True:=⟨⟩
theorem tw15391659545999586258:True:=⟨⟩
theorem tw14576232938714709636:True:=⟨⟩
theorem tw10575381620257088664:True:=⟨⟩
theorem tw4157538489609090790:True:=⟨⟩
theorem tw30605049111993269:True:=⟨⟩
theorem tw7123600381829511321:True:=⟨⟩
theorem tw395252136489755856:True:=⟨⟩
theorem tw2796287576892244677:True:=⟨⟩
theorem tw4199966020875909566:True:=⟨⟩
theorem tw11691325475845890:True:=⟨⟩
theorem tw15515422459706965466:True:=⟨⟩
theorem tw4447251743321769432:True:=⟨⟩
theorem tw16853901399250381428:True:=⟨⟩
theorem tw1810609512995505691:True:=⟨⟩
theorem tw4791659663105143152:True:=⟨⟩
theorem tw12811687709499178331:True:=⟨⟩
theorem tw16115394777377503343:True:=⟨⟩
theorem tw17619143558313384086:True:=⟨⟩
theorem tw12107125174268260117:True:=⟨⟩
theorem tw4710131756962248015:True:=⟨⟩
theorem tw5718220131650903472:True:=⟨⟩
theorem tw2969465342520103333:True:=⟨⟩
theorem tw6441798484603092561:True:=⟨⟩
theorem tw15649021883014981427:True:=⟨⟩
theorem tw17993961922578558861:True:=⟨⟩
theorem tw558128480028400685:True:=⟨⟩
theorem tw4406510243501791951:True:=⟨⟩
theorem tw16155615780892458730:True:=⟨⟩
theorem tw8201172844142716080:True:=⟨⟩
theorem tw1038697983502203129:True:=⟨⟩
theorem tw2887923917731928185:True:=⟨⟩
theorem tw14228816382942072733:True:=⟨⟩
theorem tw12166140047530983287:True:=⟨⟩
theorem tw4125729411309860527:True:=⟨⟩
theorem tw2422158100704863111:True:=⟨⟩
theorem tw4415043051241175620:True:=⟨⟩
theorem tw6936601953846509811:True:=⟨⟩
theorem tw1461143110359412164:True:=⟨⟩
theorem tw11515807578731717459:True:=⟨⟩
theorem tw18230895636925388056:True:=⟨⟩
theorem tw2227905726924992393:True:=⟨⟩
theorem tw15575490737902106208:True:=⟨⟩
theorem tw5689551297603668781:True:=⟨⟩
theorem tw10109278646713089334:True:=⟨⟩
theorem tw15946110503714486660:True:=⟨⟩
theorem tw12949706243098075378:True:=⟨⟩
theorem tw4082884624704585700:True:=⟨⟩
theorem tw6205024151652765193:True:=⟨⟩
theorem tw4885724393618201174:True:=⟨⟩
theorem tw15370201848108966405:True:=⟨⟩
theorem tw7101508576129729260:True:=⟨⟩
theorem tw2472426406050803980:True:=⟨⟩
theorem tw15578537717929685844:True:=⟨⟩
theorem tw15571639042014343896:True:=⟨⟩
theorem tw16685510634586266460:True:=⟨⟩
theorem tw920833236554138987:True:=⟨⟩
theorem tw8763357758350953467:True:=⟨⟩
theorem tw4366161740970812094:True:=⟨⟩
theorem tw10630146166779876555:True:=⟨⟩
theorem tw4834991128078376560:True:=⟨⟩
theorem tw15568127675528353851:True:=⟨⟩
theorem tw1970021513237888875:True:=⟨⟩
theorem tw9140773277671938393:True:=⟨⟩
theorem tw1816320444863790758:True:=⟨⟩
theorem tw8035965717302515203:True:=⟨⟩
theorem tw6481783479512515691:True:=⟨⟩
theorem tw13031420009222223972:True:=⟨⟩
theorem tw16031621264810170294:True:=⟨⟩
theorem tw1457040364530585937:True:=⟨⟩
theorem tw12029416694580352963:True:=⟨⟩
theorem tw11177437534779698121:True:=⟨⟩
theorem tw5381985923942737070:True:=⟨⟩
theorem tw11121378515049152763:True:=⟨⟩
theorem tw15794105598013227014:True:=⟨⟩
theorem tw6546047042823904027:True:=⟨⟩
theorem tw18426556838836448943:True:=⟨⟩
theorem tw11920995962906287670:True:=⟨⟩
theorem tw7460671537298433139:True:=⟨⟩
theorem tw11150120637757410071:True:=⟨⟩
theorem tw15626850352337101619:True:=⟨⟩
theorem tw3617009935817150993:True:=⟨⟩
theorem tw12232758610794681346:True:=⟨⟩
theorem tw18381040341611076241:True:=⟨⟩
theorem tw6072166226475909445:True:=⟨⟩
theorem tw6323675870128275230:True:=⟨⟩
theorem tw11898108177317464273:True:=⟨⟩
theorem tw3038352979435376132:True:=⟨⟩
theorem tw14917124722800984008:True:=⟨⟩
theorem tw6504628946919778410:True:=⟨⟩
theorem tw6944808418917631857:True:=⟨⟩
theorem tw3476466222162230899:True:=⟨⟩
theorem tw8233086359651951476:True:=⟨⟩
theorem tw1913653792219532282:True:=⟨⟩
theorem tw14832764741594695172:True:=⟨⟩
theorem tw14835518639472327353:True:=⟨⟩
theorem tw4140107886078196305:True:=⟨⟩
theorem tw4364336654688807159:True:=⟨⟩
theorem tw6401396306673961669:True:=⟨⟩
theorem tw2329003677378717962:True:=⟨⟩
theorem tw11890726002346295824:True:=⟨⟩
theorem tw3353638083829927207:True:=⟨⟩
theorem tw5896794632407674616:True:=⟨⟩
theorem tw2466846541155956157:True:=⟨⟩
theorem tw186544807435653136:True:=⟨⟩
theorem tw12465109578941030296:True:=⟨⟩
theorem tw9427592200490314507:True:=⟨⟩
theorem tw14588490152996438913:True:=⟨⟩
theorem tw6263688043244466540:True:=⟨⟩
theorem tw13296816434594013083:True:=⟨⟩
theorem tw16700078368087904427:True:=⟨⟩
theorem tw12897746154882502233:True:=⟨⟩
theorem tw14903009571194975719:True:=⟨⟩
theorem tw10169141633911174409:True:=⟨⟩
theorem tw17957867933995541031:True:=⟨⟩
theorem tw12890014320768770559:True:=⟨⟩
theorem tw487901708218620502:True:=⟨⟩
theorem tw4134621153821825952:True:=⟨⟩
theorem tw5122118307236921962:True:=⟨⟩
theorem tw2232795247383972458:True:=⟨⟩
theorem tw15247634074999926763:True:=⟨⟩
theorem tw12908573376795426090:True:=⟨⟩
theorem tw12961630950556206028:True:=⟨⟩
theorem tw6371730194274166308:True:=⟨⟩
theorem tw1521781655614283697:True:=⟨⟩
theorem tw7866442960741036914:True:=⟨⟩
theorem tw3978962592725729722:True:=⟨⟩
theorem tw14329462248406886067:True:=⟨⟩
theorem tw14837085643036670676:True:=⟨⟩
theorem tw3371693660542629249:True:=⟨⟩
theorem tw1641941430100310687:True:=⟨⟩
theorem tw1307473680832326502:True:=⟨⟩
theorem tw480427151149231268:True:=⟨⟩
theorem tw16870928142943000104:True:=⟨⟩
theorem tw14487486313026742202:True:=⟨⟩
theorem tw9025014879843957244:True:=⟨⟩
theorem tw17356600192848723871:True:=⟨⟩
theorem tw9597365476801031505:True:=⟨⟩
theorem tw17360850074658061859:True:=⟨⟩
theorem tw928939038014619515:True:=⟨⟩
theorem tw9761644087810861091:True:=⟨⟩
theorem tw7222043501631827059:True:=⟨⟩
theorem tw12819664335311986951:True:=⟨⟩
theorem tw11166130152474384409:True:=⟨⟩
theorem tw12867176730297291473:True:=⟨⟩
theorem tw933162763242747985:True:=⟨⟩
theorem tw14983099381360657242:True:=⟨⟩
theorem tw9150598596688367422:True:=⟨⟩
theorem tw4607909172902343910:True:=⟨⟩
theorem tw7548220960568951107:True:=⟨⟩
theorem tw6599223728479191732:True:=⟨⟩
theorem tw8210406313952068557:True:=⟨⟩
theorem tw17166937766902427869:True:=⟨⟩
theorem tw8762397348041180561:True:=⟨⟩
theorem tw107883659881525182:True:=⟨⟩
theorem tw7127862405212452568:True:=⟨⟩
theorem tw2952837042661340109:True:=⟨⟩
theorem tw17602583079398513947:True:=⟨⟩
theorem tw13466114930126967219:True:=⟨⟩
theorem tw16078886393777369657:True:=⟨⟩
theorem tw17099953511405202673:True:=⟨⟩
theorem tw4741583592416846964:True:=⟨⟩
theorem tw12027996947959623661:True:=⟨⟩
theorem tw4592261961706264674:True:=⟨⟩
theorem tw16035003725640494409:True:=⟨⟩
theorem tw15900974085737637593:True:=⟨⟩
theorem tw6767783795759163765:True:=⟨⟩
theorem tw2366274880387510704:True:=⟨⟩
theorem tw14066638928503134467:True:=⟨⟩
theorem tw18267907284910952731:True:=⟨⟩
theorem tw4597474300990520866:True:=⟨⟩
theorem tw135503339307463165:True:=⟨⟩
theorem tw16692968762762686950:True:=⟨⟩
theorem tw1742200154171429897:True:=⟨⟩
theorem tw4986872803720282346:True:=⟨⟩
theorem tw11741211492434923223:True:=⟨⟩
theorem tw1997166993819816938:True:=⟨⟩
theorem tw2914360004712590573:True:=⟨⟩
theorem tw6078921571833591143:True:=⟨⟩
theorem tw11869340661110112147:True:=⟨⟩
theorem tw1884959848840940620:True:=⟨⟩
theorem tw3459752510859017092:True:=⟨⟩
theorem tw5381354387350114744:True:=⟨⟩
theorem tw16189402764837407428:True:=⟨⟩
theorem tw6107740640366605126:True:=⟨⟩
theorem tw15652032485585098053:True:=⟨⟩
theorem tw6168717229438768313:True:=⟨⟩
theorem tw1192515508148228223:True:=⟨⟩
theorem tw8545252930710363960:True:=⟨⟩
theorem tw7934362957106494009:True:=⟨⟩
theorem tw4550127326515928422:True:=⟨⟩
theorem tw10770169616970332388:True:=⟨⟩
theorem tw13488130894005442579:True:=⟨⟩
theorem tw2704263608623278023:True:=⟨⟩
theorem tw7549051020003858157:True:=⟨⟩
theorem tw8756098171396936916:True:=⟨⟩
theorem tw5121254321831433882:True:=⟨⟩
theorem tw14988579111279559068:True:=⟨⟩
theorem tw4772047419789108004:True:=⟨⟩
theorem tw2156181104335500206:True:=⟨⟩
theorem tw15756401467496793211:True:=⟨⟩
theorem tw18399634559089974823:True:=⟨⟩
theorem tw7471918289196759100:True:=⟨⟩
theorem tw2902173064314643292:True:=⟨⟩
theorem tw2820364254426133051:True:=⟨⟩
theorem tw15778249541825623041:True:=⟨⟩
theorem tw8224916801263355274:True:=⟨⟩
theorem tw15003166905556964997:True:=⟨⟩
theorem tw3728452945680733983:True:=⟨⟩
theorem tw10263329367865087070:True:=⟨⟩
theorem tw7601290218564530703:True:=⟨⟩
theorem tw12834368322096521604:True:=⟨⟩
theorem tw13499544334498166419:True:=⟨⟩
theorem tw13740861209450606294:True:=⟨⟩
theorem tw623852336505608745:True:=⟨⟩
theorem tw660759844555631542:True:=⟨⟩
theorem tw11453038127623700178:True:=⟨⟩
theorem tw11918060184500635687:True:=⟨⟩
theorem tw17782279219323341753:True:=⟨⟩
theorem tw495635257359953925:True:=⟨⟩
theorem tw2640765518299150037:True:=⟨⟩
theorem tw16140756425044754036:True:=⟨⟩
theorem tw8568544098607182935:True:=⟨⟩
theorem tw1018083725402155945:True:=⟨⟩
theorem tw223098968911909779:True:=⟨⟩
theorem tw18292230609560219029:True:=⟨⟩
theorem tw2517242777934939592:True:=⟨⟩
theorem tw14641105274829051587:True:=⟨⟩
theorem tw1607459312007520016:True:=⟨⟩
theorem tw2870446197383993096:True:=⟨⟩
theorem tw7883295774539716344:True:=⟨⟩
theorem tw3881332260648651874:True:=⟨⟩
theorem tw17271159054661076818:True:=⟨⟩
theorem tw9716006246198007874:True:=⟨⟩
theorem tw1470721323637040284:True:=⟨⟩
theorem tw15535040718532166949:True:=⟨⟩
theorem tw10965470950707713576:True:=⟨⟩
theorem tw10079977883199049950:True:=⟨⟩
theorem tw1432512528591022006:True:=⟨⟩
theorem tw7906869144943712504:True:=⟨⟩
theorem tw9508949388083424286:True:=⟨⟩
theorem tw14671869408573477710:True:=⟨⟩
theorem tw6316500763562628269:True:=⟨⟩
theorem tw2490751005119633865:True:=⟨⟩
theorem tw12637062456253855486:True:=⟨⟩
theorem tw6381785451431577360:True:=⟨⟩
theorem tw16666112148737333810:True:=⟨⟩
theorem tw1361284677775793965:True:=⟨⟩
theorem tw8941429570292669342:True:=⟨⟩
theorem tw7587936850265070171:True:=⟨⟩
theorem tw4387331105757686628:True:=⟨⟩
theorem tw1366903138929421816:True:=⟨⟩
theorem tw8558832847872809383:True:=⟨⟩
theorem tw3776509914834699158:True:=⟨⟩
theorem tw18212282421250318833:True:=⟨⟩
theorem tw18142723941313607634:True:=⟨⟩
theorem tw15227292278291411453:True:=⟨⟩
theorem tw3001236536313011116:True:=⟨⟩
theorem tw1454694004267742429:True:=⟨⟩
theorem tw5199588050877430453:True:=⟨⟩
theorem tw6050366123676130177:True:=⟨⟩
theorem tw2728061059242338076:True:=⟨⟩
theorem tw15941659068589736321:True:=⟨⟩
theorem tw17692090538510844091:True:=⟨⟩
theorem tw6152309085706231195:True:=⟨⟩
theorem tw3393106357541644754:True:=⟨⟩
theorem tw13997515412657486384:True:=⟨⟩
theorem tw8835864794379266459:True:=⟨⟩
theorem tw11240887793457129466:True:=⟨⟩
theorem tw12807068448889003467:True:=⟨⟩
theorem tw1153228456204717616:True:=⟨⟩
theorem tw6797502332863754256:True:=⟨⟩
theorem tw2212352448626482677:True:=⟨⟩
theorem tw7977584920913530648:True:=⟨⟩
theorem tw9176952499103726284:True:=⟨⟩
theorem tw2176894292798093863:True:=⟨⟩
theorem tw17888057246725636386:True:=⟨⟩
theorem tw11949419774843676372:True:=⟨⟩
theorem tw11308102280615761150:True:=⟨⟩
theorem tw218271855747761876:True:=⟨⟩
theorem tw13318020183224997646:True:=⟨⟩
theorem tw3302619589964002515:True:=⟨⟩
theorem tw3056862965336640694:True:=⟨⟩
theorem tw3062110840415194093:True:=⟨⟩
theorem tw2446809980209943174:True:=⟨⟩
theorem tw13836349336480150303:True:=⟨⟩
theorem tw1544006576339594522:True:=⟨⟩
theorem tw1308568709794963045:True:=⟨⟩
theorem tw4394805584419607212:True:=⟨⟩
theorem tw2190040187205588411:True:=⟨⟩
theorem tw1334438670129354708:True:=⟨⟩
theorem tw11774371546690974851:True:=⟨⟩
theorem tw8599574848374830203:True:=⟨⟩
theorem tw11872620725030420651:True:=⟨⟩
theorem tw127693284628940544:True:=⟨⟩
theorem tw4622898158706124489:True:=⟨⟩
theorem tw10072591720334897074:True:=⟨⟩
theorem tw6688621516223931378:True:=⟨⟩
theorem tw9681986392323839762:True:=⟨⟩
theorem tw6684853483307681475:True:=⟨⟩
theorem tw13929608042717261114:True:=⟨⟩
theorem tw8766338249241670528:True:=⟨⟩
theorem tw10498992145983313516:True:=⟨⟩
theorem tw4168758084552121444:True:=⟨⟩
theorem tw3882098386694050918:True:=⟨⟩
theorem tw15228807130019225960:True:=⟨⟩
theorem tw13048259579218367276:True:=⟨⟩
theorem tw2532412405011418578:True:=⟨⟩
theorem tw675633384093564973:True:=⟨⟩
theorem tw14527612466977130046:True:=⟨⟩
theorem tw10554886109102032739:True:=⟨⟩
theorem tw14300990219490526652:True:=⟨⟩
theorem tw15787617461138407640:True:=⟨⟩
theorem tw464155882224604494:True:=⟨⟩
theorem tw7755234022563101819:True:=⟨⟩
theorem tw16882310555476923618:True:=⟨⟩
theorem tw681678196762133460:True:=⟨⟩
theorem tw2283782504308873615:True:=⟨⟩
theorem tw7123261326408420309:True:=⟨⟩
theorem tw3333307093527706771:True:=⟨⟩
theorem tw3640048028288871332:True:=⟨⟩
theorem tw3652447118339322090:True:=⟨⟩
theorem tw1564244387664586278:True:=⟨⟩
theorem tw8957719163222920814:True:=⟨⟩
theorem tw18381558478635247462:True:=⟨⟩
theorem tw16437131354444613263:True:=⟨⟩
theorem tw6967758334741817142:True:=⟨⟩
theorem tw5819187116015686559:True:=⟨⟩
theorem tw17231462140394470530:True:=⟨⟩
theorem tw4304350514608423484:True:=⟨⟩
theorem tw1885160447487251390:True:=⟨⟩
theorem tw17391261777268409400:True:=⟨⟩
theorem tw18179500380160894012:True:=⟨⟩
theorem tw293682246478480552:True:=⟨⟩
theorem tw5094343243341551422:True:=⟨⟩
theorem tw6125466615527562699:True:=⟨⟩
theorem tw13683396709448591639:True:=⟨⟩
theorem tw9591294591713524742:True:=⟨⟩
theorem tw1947844165478415050:True:=⟨⟩
theorem tw10996980384768467995:True:=⟨⟩
theorem tw17699713908190281242:True:=⟨⟩
theorem tw5017018951062565696:True:=⟨⟩
theorem tw15112256158554183021:True:=⟨⟩
theorem tw15748154174449173054:True:=⟨⟩
theorem tw14234996385702359833:True:=⟨⟩
theorem tw4975646065283077069:True:=⟨⟩
theorem tw11526056247437605918:True:=⟨⟩
theorem tw1815067355136549213:True:=⟨⟩
theorem tw7818126904094225019:True:=⟨⟩
theorem tw9903898239806442524:True:=⟨⟩
theorem tw16120174531984101359:True:=⟨⟩
theorem tw10631645105279075591:True:=⟨⟩
theorem tw9422109582570716518:True:=⟨⟩
theorem tw15896490577159173913:True:=⟨⟩
theorem tw6519139201988578649:True:=⟨⟩
theorem tw6966534948064273735:True:=⟨⟩
theorem tw5857364795790466559:True:=⟨⟩
theorem tw13277800271896755123:True:=⟨⟩
theorem tw7895969031378749161:True:=⟨⟩
theorem tw13495217644740247474:True:=⟨⟩
theorem tw17677452349212624239:True:=⟨⟩
theorem tw15814600703411901890:True:=⟨⟩
theorem tw6432648670590150866:True:=⟨⟩
theorem tw5497449447342465882:True:=⟨⟩
theorem tw14770259577781064904:True:=⟨⟩
theorem tw5518268175270308721:True:=⟨⟩
theorem tw16978204493875001805:True:=⟨⟩
theorem tw8388720955704198308:True:=⟨⟩
theorem tw13545811188110714170:True:=⟨⟩
theorem tw9073895535997831370:True:=⟨⟩
theorem tw7866142277353883556:True:=⟨⟩
theorem tw11878880097898223061:True:=⟨⟩
theorem tw17176991463983616676:True:=⟨⟩
theorem tw9021414657587909409:True:=⟨⟩
theorem tw5924443635728087367:True:=⟨⟩
theorem tw9501750217306817525:True:=⟨⟩
theorem tw17664093668607788064:True:=⟨⟩
theorem tw17820700928771768074:True:=⟨⟩
theorem tw7231242477653755367:True:=⟨⟩
theorem tw12912761708820061536:True:=⟨⟩
theorem tw10281904927763336066:True:=⟨⟩
theorem tw4337004831693610040:True:=⟨⟩
theorem tw3515889631637789358:True:=⟨⟩
theorem tw16337830291272677349:True:=⟨⟩
theorem tw2792828153306847094:True:=⟨⟩
theorem tw7505733624117954931:True:=⟨⟩
theorem tw11416540369026076342:True:=⟨⟩
theorem tw13255287857963289408:True:=⟨⟩
theorem tw9276891366265019861:True:=⟨⟩
theorem tw18383930161358553240:True:=⟨⟩
theorem tw17827157626100424367:True:=⟨⟩
theorem tw6002722369893240409:True:=⟨⟩
theorem tw2116037325660594663:True:=⟨⟩
theorem tw12857030105181146523:True:=⟨⟩
theorem tw9314774918239465393:True:=⟨⟩
theorem tw14516554966302550706:True:=⟨⟩
theorem tw15819356951498456402:True:=⟨⟩
theorem tw4997226685061632006:True:=⟨⟩
theorem tw11472403533575715561:True:=⟨⟩
theorem tw1653258822444539843:True:=⟨⟩
theorem tw11145435849888863805:True:=⟨⟩
theorem tw3404502436968403492:True:=⟨⟩
theorem tw5701883939570146914:True:=⟨⟩
theorem tw15655777477586960553:True:=⟨⟩
theorem tw16631684748286964264:True:=⟨⟩
theorem tw2887348387471361506:True:=⟨⟩
theorem tw11932785772439258837:True:=⟨⟩
theorem tw2409209604543002762:True:=⟨⟩
theorem tw13334339998600761262:True:=⟨⟩
theorem tw2469000678036726071:True:=⟨⟩
theorem tw18142586842377040259:True:=⟨⟩
theorem tw11556890101193304752:True:=⟨⟩
theorem tw2403130108169790059:True:=⟨⟩
theorem tw7817882645654050222:True:=⟨⟩
theorem tw7647539765146638763:True:=⟨⟩
theorem tw11652901546759091839:True:=⟨⟩
theorem tw432107867851361544:True:=⟨⟩
theorem tw16471942393882878274:True:=⟨⟩
theorem tw9154690392738218242:True:=⟨⟩
theorem tw13558286038450860547:True:=⟨⟩
theorem tw17653614874969667709:True:=⟨⟩
theorem tw14310259261002441346:True:=⟨⟩
theorem tw10291157467896343935:True:=⟨⟩
theorem tw17772645769339177300:True:=⟨⟩
theorem tw5067942944471633501:True:=⟨⟩
theorem tw10544002427767964834:True:=⟨⟩
theorem tw7669180997083375591:True:=⟨⟩
theorem tw18387376363581926315:True:=⟨⟩
theorem tw16238094825419890348:True:=⟨⟩
theorem tw6092792867635998055:True:=⟨⟩
theorem tw14725219914039632478:True:=⟨⟩
theorem tw10111889092470792824:True:=⟨⟩
theorem tw17823077494651366213:True:=⟨⟩
theorem tw4027410224423304547:True:=⟨⟩
theorem tw18311633540375184423:True:=⟨⟩
theorem tw2650803916245307526:True:=⟨⟩
theorem tw5838284476387460519:True:=⟨⟩
theorem tw6300460667674462039:True:=⟨⟩
theorem tw7240299195420239513:True:=⟨⟩
theorem tw10988014034370592896:True:=⟨⟩
theorem tw8750715931316319623:True:=⟨⟩
theorem tw1754460954474079678:True:=⟨⟩
theorem tw5733749048107494412:True:=⟨⟩
theorem tw5606935713153249431:True:=⟨⟩
theorem tw17368082603979707732:True:=⟨⟩
theorem tw18238027578754108995:True:=⟨⟩
theorem tw14719585094664935199:True:=⟨⟩
theorem tw6595853759038456737:True:=⟨⟩
theorem tw8196777232226725510:True:=⟨⟩
theorem tw860795465730394637:True:=⟨⟩
theorem tw7694877715713465410:True:=⟨⟩
theorem tw908120720092950660:True:=⟨⟩
theorem tw15373726128405704845:True:=⟨⟩
theorem tw770602441363248653:True:=⟨⟩
theorem tw8786280188609474017:True:=⟨⟩
theorem tw2994185357676119503:True:=⟨⟩
theorem tw8267909042328138883:True:=⟨⟩
theorem tw5334308858061109727:True:=⟨⟩
theorem tw1850811403297931204:True:=⟨⟩
theorem tw12111520349367017539:True:=⟨⟩
theorem tw10625196393849181424:True:=⟨⟩
theorem tw16831899208380711314:True:=⟨⟩
theorem tw10785497739503282664:True:=⟨⟩
theorem tw14866340448964195438:True:=⟨⟩
theorem tw706694774664017103:True:=⟨⟩
theorem tw17453974841288111650:True:=⟨⟩
theorem tw18358354933728668895:True:=⟨⟩
theorem tw751316293512207204:True:=⟨⟩
theorem tw18206606864524858400:True:=⟨⟩
theorem tw1201596261011845467:True:=⟨⟩
theorem tw13449534994993138765:True:=⟨⟩
theorem tw3015865096738993017:True:=⟨⟩
theorem tw4105893449354338147:True:=⟨⟩
theorem tw2491456226750635749:True:=⟨⟩
theorem tw8212365080635677366:True:=⟨⟩
theorem tw3124686726552181528:True:=⟨⟩
theorem tw15683349322770880478:True:=⟨⟩
theorem tw3270538238640102018:True:=⟨⟩
theorem tw3577602648390071220:True:=⟨⟩
theorem tw14274930727892299378:True:=⟨⟩
theorem tw5222940931515167485:True:=⟨⟩
theorem tw10378006792410676538:True:=⟨⟩
theorem tw2795220554855049228:True:=⟨⟩
theorem tw12077280628396089748:True:=⟨⟩
theorem tw5341538845799676935:True:=⟨⟩
theorem tw5944609984858970621:True:=⟨⟩
theorem tw10534614398127088284:True:=⟨⟩
theorem tw11394674532280980748:True:=⟨⟩
theorem tw4131398481021634925:True:=⟨⟩
theorem tw17733232325794122246:True:=⟨⟩
theorem tw14135840923930054211:True:=⟨⟩
theorem tw13963396570794506702:True:=⟨⟩
theorem tw9223105254677851215:True:=⟨⟩
theorem tw12701241170328065699:True:=⟨⟩
theorem tw18365995413494220437:True:=⟨⟩
theorem tw8841656031593759225:True:=⟨⟩
theorem tw1156894631511979416:True:=⟨⟩
theorem tw9163137985154086339:True:=⟨⟩
theorem tw15528150881879818297:True:=⟨⟩
theorem tw11885769264688739281:True:=⟨⟩
theorem tw6504600466141004658:True:=⟨⟩
theorem tw7746135622215416514:True:=⟨⟩
theorem tw3271537290378341665:True:=⟨⟩
end PySem.W.Fast
open PySem PySem.W PyProof.Rows
set_option maxRecDepth 100000 in
set_option maxHeartbeats 0 in
theorem PySem.Challenge.cw_bodieswing_s01_answers_holds : PySem.Challenge.rw_bodieswing_s01_answers.Holds := by
  w_on; k_headS; (case hw => exact ⟨[.list [.int 0, .int 0]], by decide +kernel, by decide +kernel⟩)
  k_fillS
  refine L2.walk_specW (r := PySem.Challenge.rw_bodieswing_s01_answers) (k := 60) (CX := fun w => L2.CXe PySem.Challenge.rw_bodieswing_s01_answers.prog w) (ps := ["calls"]) (sp := BW.spAns) (by decide +kernel) rfl rfl ⟨rfl, by decide, by decide⟩ (fun w h Y => PySem.W.kIn_of Y) ?F ?S (fun _ _ _ _ _ ⟨_, _, _, _, _, _, _, _, _, _, _, z⟩ => z)
  case F =>
    intro w mg fa h Y KX G hmg
    exact BW.all_mk' KX G hmg { d0 := ⟨BW.dA (by k_is) (by k_is) (by k_is) (by k_is), BW.dA (by k_is) (by k_is) (by k_is) (by k_is), BW.dA (by k_is) (by k_is) (by k_is) (by k_is), BW.dA (by k_is) (by k_is) (by k_is) (by k_is), BW.dA (by k_is) (by k_is) (by k_is) (by k_is), BW.dA (by k_is) (by k_is) (by k_is) (by k_is), BW.dA (by k_is) (by k_is) (by k_is) (by k_is), BW.dA (by k_is) (by k_is) (by k_is) (by k_is), BW.dA (by k_is) (by k_is) (by k_is) (by k_is), BW.dA (by k_is) (by k_is) (by k_is) (by k_is), BW.dA (by k_is) (by k_is) (by k_is) (by k_is), BW.dA (by k_is) (by k_is) (by k_is) (by k_is), BW.dA (by k_is) (by k_is) (by k_is) (by k_is), BW.dA (by k_is) (by k_is) (by k_is) (by k_is), BW.dA (by k_is) (by k_is) (by k_is) (by k_is), BW.dA (by k_is) (by k_is) (by k_is) (by k_is), BW.dA (by k_is) (by k_is) (by k_is) (by k_is), BW.dA (by k_is) (by k_is) (by k_is) (by k_is), BW.dA (by k_is) (by k_is) (by k_is) (by k_is), BW.dA (by k_is) (by k_is) (by k_is) (by k_is), BW.dA (by k_is) (by k_is) (by k_is) (by k_is), BW.dA (by k_is) (by k_is) (by k_is) (by k_is), BW.dA (by k_is) (by k_is) (by k_is) (by k_is), BW.dA (by k_is) (by k_is) (by k_is) (by k_is), trivial⟩, d1 := ⟨BW.dA (by k_is) (by k_is) (by k_is) (by k_is), BW.dA (by k_is) (by k_is) (by k_is) (by k_is), BW.dA (by k_is) (by k_is) (by k_is) (by k_is), BW.dA (by k_is) (by k_is) (by k_is) (by k_is), BW.dA (by k_is) (by k_is) (by k_is) (by k_is), BW.dA (by k_is) (by k_is) (by k_is) (by k_is), BW.dA (by k_is) (by k_is) (by k_is) (by k_is), BW.dA (by k_is) (by k_is) (by k_is) (by k_is), BW.dA (by k_is) (by k_is) (by k_is) (by k_is), BW.dA (by k_is) (by k_is) (by k_is) (by k_is), BW.dA (by k_is) (by k_is) (by k_is) (by k_is), BW.dA (by k_is) (by k_is) (by k_is) (by k_is), BW.dA (by k_is) (by k_is) (by k_is) (by k_is), BW.dA (by k_is) (by k_is) (by k_is) (by k_is), BW.dA (by k_is) (by k_is) (by k_is) (by k_is), BW.dA (by k_is) (by k_is) (by k_is) (by k_is), BW.dA (by k_is) (by k_is) (by k_is) (by k_is), BW.dA (by k_is) (by k_is) (by k_is) (by k_is), BW.dA (by k_is) (by k_is) (by k_is) (by k_is), BW.dA (by k_is) (by k_is) (by k_is) (by k_is), BW.dA (by k_is) (by k_is) (by k_is) (by k_is), BW.dA (by k_is) (by k_is) (by k_is) (by k_is), BW.dA (by k_is) (by k_is) (by k_is) (by k_is), BW.dA (by k_is) (by k_is) (by k_is) (by k_is), trivial⟩, d2 := ⟨BW.dA (by k_is) (by k_is) (by k_is) (by k_is), BW.dA (by k_is) (by k_is) (by k_is) (by k_is), BW.dA (by k_is) (by k_is) (by k_is) (by k_is), BW.dA (by k_is) (by k_is) (by k_is) (by k_is), BW.dA (by k_is) (by k_is) (by k_is) (by k_is), BW.dA (by k_is) (by k_is) (by k_is) (by k_is), BW.dA (by k_is) (by k_is) (by k_is) (by k_is), BW.dA (by k_is) (by k_is) (by k_is) (by k_is), BW.dA (by k_is) (by k_is) (by k_is) (by k_is), BW.dA (by k_is) (by k_is) (by k_is) (by k_is), BW.dA (by k_is) (by k_is) (by k_is) (by k_is), BW.dA (by k_is) (by k_is) (by k_is) (by k_is), BW.dA (by k_is) (by k_is) (by k_is) (by k_is), BW.dA (by k_is) (by k_is) (by k_is) (by k_is), BW.dA (by k_is) (by k_is) (by k_is) (by k_is), BW.dA (by k_is) (by k_is) (by k_is) (by k_is), BW.dA (by k_is) (by k_is) (by k_is) (by k_is), BW.dA (by k_is) (by k_is) (by k_is) (by k_is), BW.dA (by k_is) (by k_is) (by k_is) (by k_is), BW.dA (by k_is) (by k_is) (by k_is) (by k_is), BW.dA (by k_is) (by k_is) (by k_is) (by k_is), BW.dA (by k_is) (by k_is) (by k_is) (by k_is), BW.dA (by k_is) (by k_is) (by k_is) (by k_is), BW.dA (by k_is) (by k_is) (by k_is) (by k_is), trivial⟩, d3 := ⟨BW.dA (by k_is) (by k_is) (by k_is) (by k_is), BW.dA (by k_is) (by k_is) (by k_is) (by k_is), BW.dA (by k_is) (by k_is) (by k_is) (by k_is), BW.dA (by k_is) (by k_is) (by k_is) (by k_is), BW.dA (by k_is) (by k_is) (by k_is) (by k_is), trivial⟩, fn := by k_is, fe := by kernel_rfl, tK := ⟨by k_is, by k_is, by k_is, by k_is, by k_is, by k_is, by k_is, by kernel_rfl⟩, tB := ⟨by k_is, by k_is, by k_is, by k_is, by k_is, by k_is, by k_is, by kernel_rfl⟩, tMo := ⟨by k_is, by k_is, by k_is, by k_is, by k_is, by k_is, by k_is, by kernel_rfl⟩, tPt := ⟨by k_is, by k_is, by k_is, by k_is, by k_is, by k_is, by k_is, by kernel_rfl⟩, tSp := ⟨by k_is, by k_is, by k_is, by k_is, by k_is, by k_is, by k_is, by kernel_rfl⟩, tSn := ⟨by k_is, by k_is, by k_is, by k_is, by k_is, by k_is, by k_is, by kernel_rfl⟩, tPu := ⟨by k_is, by k_is, by k_is, by k_is, by k_is, by k_is, by k_is, by kernel_rfl⟩, tS := ⟨by k_is, by k_is, by k_is, by k_is, by k_is, by k_is, by k_is, by kernel_rfl⟩, tR := ⟨by k_is, by k_is, by k_is, by k_is, by k_is, by k_is, by k_is, by kernel_rfl⟩, mK := ⟨BW.mA (by k_is) (by k_is) (by k_is) (by k_is) (by k_is), BW.mA (by k_is) (by k_is) (by k_is) (by k_is) (by k_is), BW.mA (by k_is) (by k_is) (by k_is) (by k_is) (by k_is), BW.mA (by k_is) (by k_is) (by k_is) (by k_is) (by k_is), BW.mA (by k_is) (by k_is) (by k_is) (by k_is) (by k_is), BW.mA (by k_is) (by k_is) (by k_is) (by k_is) (by k_is), BW.mA (by k_is) (by k_is) (by k_is) (by k_is) (by k_is), BW.mA (by k_is) (by k_is) (by k_is) (by k_is) (by k_is), BW.mA (by k_is) (by k_is) (by k_is) (by k_is) (by k_is), BW.mA (by k_is) (by k_is) (by k_is) (by k_is) (by k_is), BW.mA (by k_is) (by k_is) (by k_is) (by k_is) (by k_is), BW.mA (by k_is) (by k_is) (by k_is) (by k_is) (by k_is), BW.mA (by k_is) (by k_is) (by k_is) (by k_is) (by k_is), BW.mA (by k_is) (by k_is) (by k_is) (by k_is) (by k_is), trivial⟩, mB := ⟨BW.mA (by k_is) (by k_is) (by k_is) (by k_is) (by k_is), BW.mA (by k_is) (by k_is) (by k_is) (by k_is) (by k_is), trivial⟩, mMo := ⟨BW.mA (by k_is) (by k_is) (by k_is) (by k_is) (by k_is), trivial⟩, mPt := ⟨BW.mA (by k_is) (by k_is) (by k_is) (by k_is) (by k_is), trivial⟩, mSp := ⟨BW.mA (by k_is) (by k_is) (by k_is) (by k_is) (by k_is), trivial⟩, mSn := ⟨BW.mA (by k_is) (by k_is) (by k_is) (by k_is) (by k_is), trivial⟩, mPu := ⟨BW.mA (by k_is) (by k_is) (by k_is) (by k_is) (by k_is), trivial⟩, mS := ⟨BW.mA (by k_is) (by k_is) (by k_is) (by k_is) (by k_is), BW.mA (by k_is) (by k_is) (by k_is) (by k_is) (by k_is), BW.mA (by k_is) (by k_is) (by k_is) (by k_is) (by k_is), BW.mA (by k_is) (by k_is) (by k_is) (by k_is) (by k_is), BW.mA (by k_is) (by k_is) (by k_is) (by k_is) (by k_is), BW.mA (by k_is) (by k_is) (by k_is) (by k_is) (by k_is), BW.mA (by k_is) (by k_is) (by k_is) (by k_is) (by k_is), BW.mA (by k_is) (by k_is) (by k_is) (by k_is) (by k_is), BW.mA (by k_is) (by k_is) (by k_is) (by k_is) (by k_is), BW.mA (by k_is) (by k_is) (by k_is) (by k_is) (by k_is), BW.mA (by k_is) (by k_is) (by k_is) (by k_is) (by k_is), BW.mA (by k_is) (by k_is) (by k_is) (by k_is) (by k_is), BW.mA (by k_is) (by k_is) (by k_is) (by k_is) (by k_is), BW.mA (by k_is) (by k_is) (by k_is) (by k_is) (by k_is), BW.mA (by k_is) (by k_is) (by k_is) (by k_is) (by k_is), BW.mA (by k_is) (by k_is) (by k_is) (by k_is) (by k_is), trivial⟩, mR := ⟨BW.mA (by k_is) (by k_is) (by k_is) (by k_is) (by k_is), BW.mA (by k_is) (by k_is) (by k_is) (by k_is) (by k_is), BW.mA (by k_is) (by k_is) (by k_is) (by k_is) (by k_is), BW.mA (by k_is) (by k_is) (by k_is) (by k_is) (by k_is), trivial⟩, pz := BW.tA (by k_is) (by k_is), mz := BW.tA (by k_is) (by k_is), hf := BW.tA (by k_is) (by k_is), on := BW.tA (by k_is) (by k_is), qu := BW.tA (by k_is) (by k_is), gs := BW.tA (by k_is) (by k_is), fo := BW.tA (by k_is) (by k_is), cBN := BW.iA (by k_is), cNR := BW.iA (by k_is), cNB := BW.iA (by k_is), cOR := BW.iA (by k_is), cBd := BW.iA (by k_is), cSF := BW.iA (by k_is), cMB := BW.iA (by k_is), cMS := BW.iA (by k_is), cMT := BW.iA (by k_is), cMo4 := BW.iA (by k_is), bl := by kernel_rfl, ca := BW.cA (by k_is) (by k_is) (by k_is) (by k_is) (by k_is) (by k_is) (by k_is) (by k_is) (by k_is) (by k_is) (by k_is) (by k_is) (by k_is) (by k_is) } (by decide)
  case S =>
    intro K H xs a hO hwi hask hx
    cases hx with
    | cons h1 h2 =>
      cases h2
      cases h1 with
      | lst hs ha =>
        have e := L2.ints_dw a.1 _ ha
        subst e
        exact ⟨_, a.1, rfl, BW.laf_of hO hs, hask, fun H' p hp => .lst (L2.SqL.of hp) (L2.dw_ints _)⟩
