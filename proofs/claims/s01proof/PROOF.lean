import PyProof.Rows.All
import Wide.All
import OpenK.AllK
import Wide.FinOn
import PyProof.EqAt
import PyProof.EqKinds
import PyProof.TupleCall
import KE.BitLaws
import Open.SpecLaws
import KE.OsHead
import KE.OsGo
import KE.KTryDeep
import KE.KTryMore
import PyProof.InstStoreFacts
import PyProof.ExcInit
import PySem.Challenge.RW_linesback_s01_answers
import KE.KDictSum
import PyProof.Rows.SortShellAny
import PyProof.Rows.CallKwBuiltin
import PyProof.Rows.SeqCalls
import PyProof.Rows.FactsT3
import KE.KMinKey
set_option Elab.async false
set_option linter.all false
set_option maxRecDepth 100000
set_option maxHeartbeats 4000000
theorem F9.{u} {c:Prop} {h:Decidable c} (k:¬c) {α:Sort u} {t e:α}:(ite c t e)=e:=if_neg k
theorem Ga.{u} {c:Prop} {h:Decidable c} (k:c) {α:Sort u} {t e:α}:(ite c t e)=t:=if_pos k
theorem Gb {p:Prop} [Decidable p] (h:p):decide p=true:=decide_eq_true h
theorem Gc {p:Prop} [Decidable p] (h:¬p):decide p=false:=decide_eq_false h
theorem Gd {p:Prop} [Decidable p] (h:decide p=true):p:=of_decide_eq_true h
open List renaming length_map→Ge,length_append→Gi,getElem?_eq_some_iff→Gj,getElem?_eq_getElem→Gk,replicate→Gq,map_append→Gr,mem_cons→Gu,length_cons→GQ,drop_eq_getElem_cons→GX,size_toArray→G0,mem_cons_of_mem→G3,getElem?_append_left→G6,mem_singleton→G7,mem_cons_self→Hf,getElem?_append_right→Hg,getElem?_map→Hh,drop_eq_nil_of_le→Hn,map_cons→Hs,length_drop→Hv,append_assoc→Hx,zipWith→HC,length_take→HF,mem_of_getElem?→HG,take_succ→HP,length_eq_zero_iff→HQ,mem_append→HS,lookup_cons→HX,mem_append_right→HY,replicate_succ→Ia,take_length→Ib,map_map→Ic,length→Ih,drop_length→Ik,map_drop→Il,take_of_length_le→Im,drop_zero→Ip,append_nil→Iq,getElem?_cons_succ→Iw,map_congr_left→ID,drop_drop→IG,mem_map→IM,range→IR,map_take→IT,flatMap_cons→I0,length_nil→Ja,getElem?_set_self→Je,getElem?_eq_none→Jh,getElem?_set_ne→Jk,getElem?_of_mem→Jl,flatMap_append→Jq,find?_cons→JB,dropLast_concat_getLast→JC,take_append_drop→JE,flatten_cons→JG,mem_of_getLast?→JO,mem_map_of_mem→JT,length_zipWith→JU,filterMap_cons→JV,length_filterMap_le→JZ,getElem?_drop→J2,lookup→J4,all_eq_true→Kj,any_cons→Km,range_succ→Kw,mem_filter→Kx,length_set→Ky,length_reverse→KE,map_nil→KL,getElem?_eq_none_iff→KU,getElem?_cons_zero→K9,nodup_cons→Ll,length_replicate→Ln,getElem?_zipWith→Lq,mem_append_left→Lw,take_succ_cons→LG,getElem?_range→LH,reverse_cons→LV,length_range→LW,eq_nil_of_length_eq_zero→Me,of_mem_zip→Mi
open PySem renaming Addr→Gf,Value→Gg,wpAny_bind→Gm,Shared→Gp,boot_len→Gz,FuncData→GG,wpAny_pure→GY,Heap→GZ,Str→G9,sizeLine_eq→Hj,Program→Hk,Builtin→Ht,World→Hy,Around→HB,mem_of_lookup→HD,Stmt→HH,Expr→HM,PyData→HZ,PassesOwn→Ij,Obj→Io,wpAny_mono→Iv,NameKind→IB,wpAny_Call_Name_kw→IW,DictEntry→IZ,wpAny_loadPart_at→Jd,Paired→Jg,wpAny_execs_nil→Jn,wpAny_truthy_bool→Jo,wpAny_holding→Jr,wpAny_typeNameOfWhole_keyiter→JD,wpAny_passesOwn→JK,Scope→JL,wpAny_newObj_type→JP,wpAny_typeLookup_exc→JW,wpAny_typeNameOf_keyiter→J6,plainId_quiet→J7,tupleKind_room_in1→J9,wpAny_tryCatch→Kk,plainObj_wpAny_Assign_Attribute→Kr,Pos→Kv,wpAny_call_entry→KA,Within→KB,wpAny_standAt→KH,codeAny_builtin→KP,codeAny_mono→KW,call_meets→K3,wpAny_execs_cons→Lr,wpAny_updateSeq→LB,pushCells_keeps→LC,wpAny_setField→LO,wpAny_seqItems→LP,Env→L5,Params→Ma
open PySem.W renaming Frag→Gh,keepIn→HL,nsIn→HV,fnOf→IA,findIn→II,emptyDict→IJ,instObj→Ji,WData→Jm,mg_none_of→JF,callWith_K→JX,codeIn→J3,plainGet→Ka,mg_of→Ke,makesIn→Kl,Codec→Kn,isFn→Kt,hasDictIn→KO,Codec→KQ,lookIn→Lg,plainGet_of→Lu,plainOver→LI,methodObj→LJ,WellAll→LS,takerIn→LZ,ReadsW→L9
open Sw renaming Bytes→Gn,ascii→Hw,le→HR,part→HU
open Nat renaming le_refl→Go,zero_le→G5,lt_of_lt_of_le→Ho,ne_of_lt→Hu,le_trans→Ie,lt_irrefl→IL,zero_add→IU,sub_self→Jz,pow_succ→Kc,two_pow_pos→KD,add_le_add_left→KJ,ne_of_gt→KN,lt_of_le_of_lt→KR,lt_succ_of_lt→K0,le_of_succ_le→K1,min_self→Li,le_of_lt→Lj,le_of_eq→Lk,min_eq_left→Lm,pow_le_pow_right→Ly,eq_of_testBit_eq→Lz,pos_of_ne_zero→LR,lt_trans→L3,le_succ_of_le→L4,lt_succ_self→Mb,le_of_not_lt→Mc
open SwVersion.History renaming text→Gs,kept→Ir,kept→Ku,text→K7
open SwVersion renaming History→Gv,History→Hl,Version→IE,Run→Jt,Piece→Ju,VERSIONS→K5
open PySem.F renaming plainAttrs_list→Gw,type_list_extend→Hb,slot_list_extend→Hc,type_list_append→HI,slot_list_append→HJ,slot_dict_keyiterator_next→IH,plain_max_loop→IK,slot_list_getattribute→Kb,attrBase_Exception→KC,store_Exception→KY,entry_max_loop→K6,slot_dict_get→Lc,slot_dict_getitem→Mg
open PySem.Heap renaming get?_push_of_some→Gx,lt_size→Ha,get?_push_size→Hi,get?_update_other→HK,size_push→Iz,get?_update_self→IF,SameBut→J8,get?_none_of_le→Kq
open Or renaming inl→Gy
open Bool renaming false_ne_true→GI,and_eq_true→G8,or_false→Jf,false_eq_true→Jx,eq_iff_iff→Kz,true_and→LL,not_and→LX
open Option.some renaming inj→Hd
open PySem.Challenge renaming rw_linesback_s01_answers→He
open Sum renaming inl→Hm,inr→LD
open PySem.Value renaming ref→Hq,none→Iy,type→J0,builtin→Kh,int→K4
open Option renaming some→Hr,ne_none_iff_exists'→HN,filter_some→Jv,filter→Kg,map_some→Ko,isSome_map→LM
open PySem.PassesOwn renaming never→Hz,leaving→KI
open Ne renaming symm→HA
open Int renaming toNat_natCast→HE,natCast_nonneg→JA,toNat_of_nonneg→JY
open False renaming elim→HW
open VersionNs renaming Call→Ig,step→IQ,HISTORIES→IX,parentOf→Jb,PATCH→JQ,Answer→KS,ofPatch→Lx,SAVED→LQ
open PySem.Builtin renaming bitAnd→Ii,bitOr→JR
open PySem.SeqAt renaming EqAt→Iu,shaped→Jj
open VersionNeutral renaming step→Ix,start→Js,natural→LU
open Array renaming length_toList→IC,getElem?_eq_some_iff→JM
open PySem.Builtin.List renaming listTooLong→IN
open PyWqaecr renaming answers→IP,answers_asked→KZ
open PySem.Obj renaming data_mapFields→IS,isFreed_of_fields→Ki,mapSeq→Lh,mapFields→LN,cls_mapFields→L1
open PyProof.Rows renaming callWith_type1→IV,two_pow_cast→Jp,IntsAre→LA,AllBare→LY,boot_tuple→L0,boot_list→L8
open PySem.PyData renaming canLayAll0→IY,depthAll→Jw,eqvAll→Jy,eqv→Kf,depth→K8
open PyFlat renaming rows→Jc,calls→J5
open PySem.Builtin.Int renaming intBits→JH
open Classical renaming byContradiction→JI
open PySem.Around renaming under_plainId→JJ
open True renaming intro→JN
open PySem.Paired renaming length→JS
open UInt8 renaming ofNat→J1
open PySem.NameKind renaming free→Kd,cell→Mh
open PySem.W.Codec renaming encAll→KF,denoteAll→Le,app→L6
open PySem.Builtin.Range renaming rangeSize→KG
open PySem.Str renaming ofString→KM
open ForInStep renaming yield→K2
open PySem.Calls renaming callWith_builtin→Ld,spliced_cons→LK
open PySem.Builtin.Dict_items renaming ownsTuple→Lf
open PySem.Builtin.Builtins renaming bindParams→Lv
open PySem.Builtin.Dict renaming updateFrom→L7,showsAll→Mf
namespace Lb
open Sw SwVersion
def dist:List Gn->List Gn->Nat
 | [],b=>b.length
 | _::l,[]=>l.length+1
 | x::l,y::m=>if x=y then dist l m else min (dist l (y::m)) (dist (x::l) m)+1
termination_by a b=>a.length+b.length
theorem sY (b:List Gn):dist [] b=b.length:=by rw [dist]
theorem nY (a:List Gn):dist a []=a.length:=by cases a <;> simp [dist]
theorem n8 (x y:Gn) (l m:List Gn):dist (x::l) (y::m)=if x=y then dist l m else min (dist l (y::m)) (dist (x::l) m)+1:=by rw [dist]
def lcs:List Gn->List Gn->Nat
 | [],_=>0
 | _::_,[]=>0
 | x::l,y::m=>if x=y then lcs l m+1 else max (lcs l (y::m)) (lcs (x::l) m)
termination_by a b=>a.length+b.length
theorem pH (b:List Gn):lcs [] b=0:=by rw [lcs]
theorem sM (a:List Gn):lcs a []=0:=by cases a <;> simp [lcs]
theorem pI (x y:Gn) (l m:List Gn):lcs (x::l) (y::m)=if x=y then lcs l m+1 else max (lcs l (y::m)) (lcs (x::l) m):=by rw [lcs]
theorem D3:∀ (n:Nat) (a b:List Gn),a.length+b.length<=n->dist a b+2*lcs a b=a.length+b.length:=by
 intro n;induction n with
 | zero =>
  intro a b h;have ha:a=[]:=HQ.mp (by omega);have hb:b=[]:=HQ.mp (by omega);subst ha hb;simp [sY,pH]
 | succ n ih =>
  intro a b h
  match a,b with
  | [],b=>simp [sY,pH]
  | x::l,[]=>simp [nY,sM]
  | x::l,y::m =>
   simp only [GQ] at h;rw [n8,pI];have i1:=ih l m (by omega);have i2:=ih l (y::m) (by simp only [GQ];omega);have i3:=ih (x::l) m (by simp only [GQ];omega);simp only [GQ] at i2 i3 ⊢;by_cases e:x=y
   ·rw [Ga e,Ga e];omega
   ·rw [F9 e,F9 e];omega
theorem xq:∀ (n:Nat) (l m:List Gn),l.length+m.length<=n ->
  (∀ x,lcs l m<=lcs (x::l) m/\lcs (x::l) m<=lcs l m+1)/\(∀ y,lcs l m<=lcs l (y::m)/\lcs l (y::m)<=lcs l m+1):=by
 intro n;induction n with
 | zero =>
  intro l m h;have ha:l=[]:=HQ.mp (by omega);have hb:m=[]:=HQ.mp (by omega);subst ha hb;simp [pH,sM]
 | succ n ih =>
  intro l m h;refine ⟨fun x=>?_,fun y=>?_⟩
  ·match m,h with
   | [],h=>simp [sM]
   | y::m',h =>
    simp only [GQ] at h;have i:=ih l m' (by omega);have i1:=i.1 x;have i2:=i.2 y;rw [pI];by_cases e:x=y
    ·rw [Ga e];omega
    ·rw [F9 e];omega
  ·match l,h with
   | [],h=>simp [pH]
   | x::l',h =>
    simp only [GQ] at h;have i:=ih l' m (by omega);have i1:=i.1 x;have i2:=i.2 y;rw [pI];by_cases e:x=y
    ·rw [Ga e];omega
    ·rw [F9 e];omega
theorem DK (x:Gn) (l m:List Gn):lcs l m<=lcs (x::l) m/\lcs (x::l) m<=lcs l m+1:=(xq _ l m (Go _)).1 x
theorem uJ (y:Gn) (l m:List Gn):lcs l m<=lcs l (y::m)/\lcs l (y::m)<=lcs l m+1:=(xq _ l m (Go _)).2 y
theorem dl (a b:List Gn):dist a b+2*lcs a b=a.length+b.length:=D3 _ a b (Go _)
def rowR (b t:List Gn):Array Nat:=((List.range' 0 (b.length+1)).map fun j=>dist t (b.drop j)).toArray
def rowsR (b:List Gn):List Gn->List (Array Nat)
 | []=>[rowR b []]
 | x::l=>rowR b (x::l)::rowsR b l
theorem lw (b t:List Gn) (j:Nat) (h:j<=b.length):(rowR b t).getD j 0=dist t (b.drop j):=by
 have hj:j<(rowR b t).size:=by simp [rowR];omega
 rw [Array.getD,dif_pos hj];simp [rowR]
theorem ym (b t:List Gn):(rowsR b t).headD #[]=rowR b t:=by cases t <;> rfl
theorem i6 (b:List Gn) (j:Nat) (h:j<b.length):b.drop j=b.getD j []::b.drop (j+1):=by
 rw [GX h];simp [List.getD,Gk h]
theorem xN (b:List Gn) (j:Nat):b.toArray.getD j []=b.getD j []:=by
 by_cases h:j<b.length
 ·simp [Array.getD,List.getD,h]
 ·simp [Array.getD,List.getD,h,Jh (Mc h)]
theorem wW (x:Gn) (b l:List Gn):∀ (n s:Nat),s+n=b.length ->
  (List.range' s n).foldr (fun (j:Nat) (r:List Nat)=>(if x=b.toArray.getD j [] then (rowR b l).getD (j+1) 0 else min ((rowR b l).getD j 0) (r.headD 0)+1)::r) [(rowR b l).getD b.length 0+1]
   = (List.range' s (n+1)).map fun j=>dist (x::l) (b.drop j):=by
 intro n;induction n with
 | zero =>
  intro s h;have hs:s=b.length:=by omega
  subst hs;show [(rowR b l).getD b.length 0+1]=[dist (x::l) (b.drop b.length)];rw [lw b l _ (Go _),Ik,nY,nY];rfl
 | succ n ih =>
  intro s h;have i:=ih (s+1) (by omega);rw [List.range'_succ,List.foldr_cons,i];have hs:s<b.length:=by omega
  rw [List.range'_succ (s:=s),Hs];congr 1;rw [lw b l _ (by omega),lw b l _ (by omega),xN,i6 b s hs,n8,← i6 b s hs];rfl
theorem AX (x:Gn) (b l:List Gn):rowFor x b.toArray (rowR b l)=rowR b (x::l):=by
 unfold rowFor;have h:=wW x b l b.length 0 (by omega);rw [List.range_eq_range',G0,h];rfl
theorem zX (b:List Gn):∀ l:List Gn,rows b.toArray l=rowsR b l
 | []=>by
  unfold rows rowsR rowR;simp only [G0,List.range_eq_range'];congr 2;apply ID;intro j hj;rw [sY,Hv]
 | x::l=>by
  unfold rows;show rowFor x b.toArray ((rows b.toArray l).headD #[])::rows b.toArray l=_;rw [zX b l,ym,AX];rfl
def wayP:List Gn->List Gn->List Step
 | [],[]=>[]
 | [],_::m => .take::wayP [] m
 | _::l,[] => .drop::wayP l []
 | x::l,y::m=>if x=y then .keep::wayP l m else if dist (x::l) (y::m)=dist l (y::m)+1 then .drop::wayP l (y::m) else .take::wayP (x::l) m
termination_by a b=>a.length+b.length
theorem m5:wayP [] []=[]:=by rw [wayP]
theorem vg (y:Gn) (m:List Gn):wayP [] (y::m) = .take::wayP [] m:=by rw [wayP]
theorem vh (x:Gn) (l:List Gn):wayP (x::l) [] = .drop::wayP l []:=by rw [wayP]
theorem m6 (x y:Gn) (l m:List Gn):wayP (x::l) (y::m)=if x=y then .keep::wayP l m else if dist (x::l) (y::m)=dist l (y::m)+1 then .drop::wayP l (y::m) else .take::wayP (x::l) m:=by rw [wayP]
theorem ji (b:List Gn):∀ (f:Nat) (l:List Gn) (j:Nat),l.length+(b.length-j)<=f->wayFrom b.toArray f l (rowsR b l) j=wayP l (b.drop j)
 | 0,l,j,h=>by
  have hl:l=[]:=HQ.mp (by omega);subst hl;rw [Hn (by omega),m5];unfold wayFrom;rfl
 | f+1,[],j,h=>by
  unfold wayFrom;rw [G0];by_cases hj:j<b.length
  ·rw [Ga hj,i6 b j hj,vg,← ji b f [] (j+1) (by simp at h ⊢;omega)]
  ·rw [F9 hj,Hn (by omega),m5]
 | f+1,x::l,j,h=>by
  simp only [GQ] at h;unfold wayFrom;have e0:(rowsR b (x::l)).headD #[]=rowR b (x::l):=rfl;have e1:(rowsR b (x::l)).drop 1=rowsR b l:=rfl;have e2:(rowsR b (x::l)).getD 1 #[]=rowR b l:=by
   show ((rowsR b l)[0]?).getD #[]=rowR b l;cases l <;> rfl
  simp only [e0,e1,e2,G0];by_cases hj:j<b.length
  ·have i1:=ji b f l (j+1) (by omega)
   have i2:=ji b f (x::l) (j+1) (by simp only [GQ];omega);have i3:=ji b f l j (by omega);rw [i1,i2,i3,xN,lw b _ j (by omega),lw b _ (j+1) (by omega),lw b _ j (by omega)];rw [i6 b j hj,m6];by_cases e:x=b.getD j []
   ·rw [Ga ⟨hj,e⟩,Ga e]
   ·rw [F9 (fun q=>e q.2),F9 e]
    have d:=n8 x (b.getD j []) l (b.drop (j+1));rw [F9 e] at d;by_cases k:dist (x::l) (b.getD j []::b.drop (j+1))=dist l (b.getD j []::b.drop (j+1))+1
    ·rw [Ga k,F9 (fun q=>q.2.2 k.symm)]
    ·rw [F9 k,Ga ⟨hj,by omega,fun q=>k q.symm⟩]
  ·rw [F9 (fun q=>hj q.1),F9 (fun q=>hj q.1),Hn (by omega),vh,ji b f l j (by omega),Hn (by omega)]
theorem oy (a b:List Gn):way a b=wayP a b:=by
 unfold way;show wayFrom b.toArray (a.length+b.toArray.size+1) a (rows b.toArray a) 0=_;rw [zX,ji b _ a 0 (by rw [G0];omega),Ip]
def bv:List Bool->Nat
 | []=>0
 | x::xs=>2 ^ xs.length*x.toNat+bv xs
theorem xJ:∀ xs:List Bool,bv xs<2 ^ xs.length
 | []=>by decide
 | x::xs=>by
  have h:=xJ xs;unfold bv;rw [GQ,Kc];cases x <;> simp <;> omega
theorem mY:∀ (xs:List Bool) (k:Nat),(bv xs).testBit k=(xs.reverse[k]?).getD false
 | [],k=>by simp [bv]
 | x::xs,k=>by
  unfold bv;rw [Nat.testBit_two_pow_mul_add _ (xJ xs),LV];by_cases h:k<xs.length
  ·rw [Ga h,mY xs k,G6 (by simpa using h)]
  ·rw [F9 h,Hg (by simpa using Mc h),KE]
   by_cases hk:k=xs.length
   ·subst hk;cases x <;> simp
   ·obtain ⟨d,hd⟩:∃ d,k-xs.length=d+1:=⟨k-xs.length-1,by omega⟩
    rw [hd];cases x <;> simp [Nat.testBit_succ]
theorem Ec (xs ys:List Bool) (h:xs.length=ys.length):bv xs &&& bv ys=bv (HC and xs ys):=by
 apply Lz;intro k;rw [Nat.testBit_and,mY,mY,mY,List.reverse_zipWith h,Lq];cases e1:xs.reverse[k]? <;> cases e2:ys.reverse[k]? <;> simp
theorem bv_or (xs ys:List Bool) (h:xs.length=ys.length):bv xs ||| bv ys=bv (HC or xs ys):=by
 apply Lz;intro k;rw [Nat.testBit_or,mY,mY,mY,List.reverse_zipWith h,Lq];cases e1:xs.reverse[k]? <;> cases e2:ys.reverse[k]? <;> simp
 ·have:=KU.mp e1
  have h3:=(Gj.mp e2).1;rw [KE] at *;omega
 ·have:=KU.mp e2
  have h3:=(Gj.mp e1).1;rw [KE] at *;omega
def addB:List Bool->List Bool->List Bool×Bool
 | x::xs,e::es=>let r:=addB xs es;(if e then r.2 else x != r.2)::r.1 |> fun l=>(l,if e then x else (x && r.2))
 | _,_=>([],false)
theorem tF:∀ (xs es:List Bool),xs.length=es.length->(addB xs es).1.length=xs.length
 | [],[],_=>rfl
 | x::xs,e::es,h=>by
  have i:=tF xs es (by simpa using h);simp [addB,i]
theorem xP:∀ (xs es:List Bool),xs.length=es.length->bv xs+bv (HC and xs es)=2 ^ xs.length*(addB xs es).2.toNat+bv (addB xs es).1
 | [],[],_=>rfl
 | x::xs,e::es,h=>by
  have h':xs.length=es.length:=by simpa using h
  have i:=xP xs es h';have l:=tF xs es h';have z:(HC and xs es).length=xs.length:=by rw [JU,← h',Li]
  show bv (x::xs)+bv ((x && e)::HC and xs es)=2 ^ (x::xs).length*(if e then x else (x && (addB xs es).2)).toNat+bv ((if e then (addB xs es).2 else x != (addB xs es).2)::(addB xs es).1)
  simp only [bv,GQ,z,l,Kc];cases x <;> cases e <;> cases c:(addB xs es).2 <;> rw [c] at i <;> simp at i ⊢ <;> omega
theorem wx:∀ (xs es:List Bool),xs.length=es.length->bv xs-bv (HC and xs es)=bv (HC (fun x e=>x && !e) xs es)
 | [],[],_=>rfl
 | x::xs,e::es,h=>by
  have h':xs.length=es.length:=by simpa using h
  have i:=wx xs es h';have z:(HC and xs es).length=xs.length:=by rw [JU,← h',Li]
  have z2:(HC (fun x e=>x && !e) xs es).length=xs.length:=by rw [JU,← h',Li]
  have le:bv (HC and xs es)<=bv xs:=by
   rw [← Ec xs es h'];exact Nat.and_le_left
  show bv (x::xs)-bv ((x && e)::HC and xs es)=bv ((x && !e)::HC (fun x e=>x && !e) xs es)
  simp only [bv,z,z2];generalize 2 ^ xs.length=p;cases x <;> cases e <;> simp <;> omega
theorem FG (n:Nat):bv (Gq n true)=2 ^ n-1:=by
 induction n with
 | zero=>rfl
 | succ n ih =>
  have h:0<2 ^ n:=KD n;simp only [Ia,bv,Ln,ih,Kc];simp;omega
theorem FE (xs es:List Bool) (h:xs.length=es.length) (r m:Nat) (hr:r=bv xs) (hm:m=bv es) :
  (((r+(r &&& m)) ||| (r-(r &&& m))) &&& (2 ^ xs.length-1))=bv (HC or (addB xs es).1 (HC (fun x e=>x && !e) xs es)):=by
 subst hr hm;have z2:(HC (fun x e=>x && !e) xs es).length=xs.length:=by rw [JU,← h,Li]
 have l:=tF xs es h;rw [Ec xs es h,wx xs es h,xP xs es h,← bv_or _ _ (by rw [l,z2])];have h1:bv (addB xs es).1<2 ^ xs.length:=by rw [← l];exact xJ _
 have h2:bv (HC (fun x e=>x && !e) xs es)<2 ^ xs.length:=by rw [← z2];exact xJ _
 rw [Nat.and_two_pow_sub_one_eq_mod];apply Lz;intro k;rw [Nat.testBit_mod_two_pow,Nat.testBit_or,Nat.testBit_or,Nat.testBit_two_pow_mul_add _ h1];by_cases hk:k<xs.length
 ·rw [Ga hk];simp [hk]
 ·rw [F9 hk]
  have g1:(bv (addB xs es).1).testBit k=false:=Nat.testBit_lt_two_pow (Ho h1 (Ly (by decide) (by omega)));have g2:(bv (HC (fun x e=>x && !e) xs es)).testBit k=false:=Nat.testBit_lt_two_pow (Ho h2 (Ly (by decide) (by omega)))
  simp [hk,g1,g2]
def bitsOf:List Gn->List Gn->List Bool
 | [],_=>[]
 | x::l,b=>decide (dist (x::l) b=dist l b+1)::bitsOf l b
theorem mi:∀ (a b:List Gn),(bitsOf a b).length=a.length
 | [],_=>rfl
 | x::l,b=>by simp [bitsOf,mi l b]
def eqsOf (a:List Gn) (y:Gn):List Bool:=a.map fun x=>decide (x=y)
theorem tD:∀ a:List Gn,bitsOf a []=Gq a.length true
 | []=>rfl
 | x::l=>by simp [bitsOf,tD l,nY,Ia]
theorem uW (y:Gn) (m:List Gn):∀ a:List Gn,
  HC or (addB (bitsOf a m) (eqsOf a y)).1 (HC (fun x e=>x && !e) (bitsOf a m) (eqsOf a y))=bitsOf a (y::m)/\(addB (bitsOf a m) (eqsOf a y)).2=decide (lcs a (y::m)=lcs a m+1)
 | []=>by simp [bitsOf,eqsOf,addB,pH]
 | x::l=>by
  obtain ⟨i1,i2⟩:=uW y m l;have d1:=dl l m;have d2:=dl (x::l) m;have d3:=dl l (y::m);have d4:=dl (x::l) (y::m);have u1:=DK x l m;have u2:=uJ y l m;have u3:=DK x l (y::m);have u4:=uJ y (x::l) m;have c:=pI x y l m;have c2:=n8 x y l m;simp only [GQ] at d2 d3 d4;have hb:bitsOf (x::l) m=decide (dist (x::l) m=dist l m+1)::bitsOf l m:=rfl;have hb':bitsOf (x::l) (y::m)=decide (dist (x::l) (y::m)=dist l (y::m)+1)::bitsOf l (y::m):=rfl;have he:eqsOf (x::l) y=decide (x=y)::eqsOf l y:=rfl;rw [hb,hb',he];show (_::HC or (addB (bitsOf l m) (eqsOf l y)).1 (HC (fun x e=>x && !e) (bitsOf l m) (eqsOf l y))=_)/\(if decide (x=y) then decide (dist (x::l) m=dist l m+1) else (decide (dist (x::l) m=dist l m+1) && (addB (bitsOf l m) (eqsOf l y)).2))=_
  rw [i1,i2];by_cases e:x=y
  ·rw [Ga e] at c c2
   refine ⟨?_,?_⟩
   ·congr 1
    simp only [e,decide_true,if_true,Bool.not_true,Bool.and_false,Jf];apply decide_eq_decide.mpr;subst e;omega
   ·simp only [e,decide_true,if_true]
    apply decide_eq_decide.mpr;subst e;omega
  ·rw [F9 e] at c c2
   simp only [e,decide_false,Bool.not_false,Bool.and_true,Jx,if_false];refine ⟨?_,?_⟩
   ·congr 1
    by_cases p:dist (x::l) m=dist l m+1
    ·simp only [p,decide_true]
     by_cases q:lcs l (y::m)=lcs l m+1
     ·simp only [q,decide_true];simp;omega
     ·simp only [q,decide_false];simp;omega
    ·simp only [p,decide_false]
     by_cases q:lcs l (y::m)=lcs l m+1
     ·simp only [q,decide_true];simp;omega
     ·simp only [q,decide_false];simp;omega
   ·by_cases p:dist (x::l) m=dist l m+1
    ·simp only [p,decide_true,LL]
     apply decide_eq_decide.mpr;omega
    ·simp only [p,decide_false,Bool.false_and]
     symm;apply Gc;omega
theorem CB (a:List Gn) (y:Gn) (m:List Gn) :
  (((bv (bitsOf a m)+(bv (bitsOf a m) &&& bv (eqsOf a y))) ||| (bv (bitsOf a m)-(bv (bitsOf a m) &&& bv (eqsOf a y)))) &&& (2 ^ a.length-1))=bv (bitsOf a (y::m)):=by
 have h:(bitsOf a m).length=(eqsOf a y).length:=by rw [mi];simp [eqsOf]
 have:=FE (bitsOf a m) (eqsOf a y) h _ _ rfl rfl;rw [mi] at this;rw [this,(uW y m a).1]
theorem EI (a:List Gn):bv (bitsOf a [])=2 ^ a.length-1:=by rw [tD,FG]
theorem EJ (a b:List Gn) (i:Nat) (x:Gn) (l:List Gn) (h:a.drop i=x::l):(bv (bitsOf a b)).testBit l.length=decide (dist (x::l) b=dist l b+1):=by
 have hb:∀ (i:Nat) (a:List Gn),(bitsOf a b).drop i=bitsOf (a.drop i) b:=by
  intro i;induction i with
  | zero=>intro a;simp
  | succ i ih =>
   intro a;cases a with
   | nil=>simp [bitsOf]
   | cons z a=>simp [bitsOf,ih]
 have h1:(bitsOf a b).drop i=bitsOf (x::l) b:=by rw [hb,h]
 rw [mY];have hl:(bitsOf a b).length=i+(l.length+1):=by
  have:=congrArg Ih h;rw [Hv,GQ] at this;rw [mi];omega
 rw [List.getElem?_reverse (by omega)];have:(bitsOf a b)[(bitsOf a b).length-1-l.length]?=((bitsOf a b).drop i)[0]?:=by
  rw [J2];congr 1;omega
 rw [this,h1];rfl
def pairsFrom:List Step->Nat->Nat->List (Nat×Nat)
 | [],_,_=>[]
 | .keep::w,i,j=>(i,j)::pairsFrom w (i+1) (j+1)
 | .drop::w,i,j=>pairsFrom w (i+1) j
 | .take::w,i,j=>pairsFrom w i (j+1)
def pairsOf (a b:List Gn):List (Nat×Nat):=pairsFrom (wayP a b) 0 0
def countA:List Step->Nat
 | []=>0
 | .take::w=>countA w
 | _::w=>countA w+1
def fV:List Step->Nat
 | []=>0
 | .drop::w=>fV w
 | _::w=>fV w+1
theorem D6:∀ (n:Nat) (a b:List Gn),a.length+b.length<=n->countA (wayP a b)=a.length/\fV (wayP a b)=b.length:=by
 intro n;induction n with
 | zero =>
  intro a b h;have ha:a=[]:=HQ.mp (by omega);have hb:b=[]:=HQ.mp (by omega);subst ha hb;rw [m5];exact ⟨rfl,rfl⟩
 | succ n ih =>
  intro a b h
  match a,b with
  | [],[]=>rw [m5];exact ⟨rfl,rfl⟩
  | [],y::m =>
   have i:=ih [] m (by simp at h ⊢;omega);rw [vg];exact ⟨i.1,congrArg (· + 1) i.2⟩
  | x::l,[] =>
   have i:=ih l [] (by simp at h ⊢;omega);rw [vh];exact ⟨congrArg (· + 1) i.1,i.2⟩
  | x::l,y::m =>
   simp only [GQ] at h;have i1:=ih l m (by omega);have i2:=ih l (y::m) (by simp only [GQ];omega);have i3:=ih (x::l) m (by simp only [GQ];omega);rw [m6];by_cases e:x=y
   ·rw [Ga e];exact ⟨congrArg (· + 1) i1.1,congrArg (· + 1) i1.2⟩
   ·rw [F9 e]
    split
    ·exact ⟨congrArg (· + 1) i2.1,i2.2⟩
    ·exact ⟨i3.1,congrArg (· + 1) i3.2⟩
theorem i8 (a b:List Gn):countA (wayP a b)=a.length:=(D6 _ a b (Go _)).1
theorem pT (a b:List Gn):fV (wayP a b)=b.length:=(D6 _ a b (Go _)).2
theorem qw (b:List Gn):∀ i j,pairsFrom (wayP [] b) i j=[]:=by
 induction b with
 | nil=>intro i j;rw [m5];rfl
 | cons y m ih=>intro i j;rw [vg];exact ih i (j+1)
theorem sF (a:List Gn):∀ i j,pairsFrom (wayP a []) i j=[]:=by
 induction a with
 | nil=>intro i j;rw [m5];rfl
 | cons x l ih=>intro i j;rw [vh];exact ih (i+1) j
def gD (a b:List Gn) (i j:Nat):List (Nat×Nat):=pairsFrom (wayP (a.drop i) (b.drop j)) i j
theorem xb (a b:List Gn) (i j:Nat) (h:a.length<=i∨b.length<=j):gD a b i j=[]:=by
 unfold gD;rcases h with h | h
 ·rw [Hn h];exact qw _ _ _
 ·rw [Hn h];exact sF _ _ _
theorem pw (a b:List Gn) (i j:Nat) (hi:i<a.length) (hj:j<b.length) (e:a[i]=b[j]):gD a b i j=(i,j)::gD a b (i+1) (j+1):=by
 unfold gD;rw [GX hi,GX hj,m6,Ga e];rfl
theorem vK (a b:List Gn) (i j:Nat) (hi:i<a.length) (hj:j<b.length) (e:¬ a[i]=b[j]) (d:dist (a.drop i) (b.drop j)=dist (a.drop (i+1)) (b.drop j)+1):gD a b i j=gD a b (i+1) j:=by
 unfold gD;rw [GX hi,GX hj] at d;rw [GX hi,GX hj,m6,F9 e,Ga d];rfl
theorem vJ (a b:List Gn) (i j:Nat) (hi:i<a.length) (hj:j<b.length) (e:¬ a[i]=b[j]) (d:¬ dist (a.drop i) (b.drop j)=dist (a.drop (i+1)) (b.drop j)+1):gD a b i j=gD a b i (j+1):=by
 unfold gD;rw [GX hi,GX hj] at d;conv=>lhs;rw [GX hi,GX hj,m6,F9 e,F9 d]
 rw [GX hi];rfl
def sx (a b:List Gn) (k:Nat):Prop:=k<=a.length/\k<=b.length/\∀ i<k,a[i]?=b[i]?
theorem qM (a b:List Gn):∀ (k:Nat),sx a b k->(IR k).map (fun p=>(p,p))++gD a b k k=pairsOf a b
 | 0,_=>rfl
 | k+1,⟨h1,h2,h3⟩=>by
  have i:=qM a b k ⟨by omega,by omega,fun i hi=>h3 i (by omega)⟩
  have e:a[k]'(by omega)=b[k]'(by omega):=by
   have:=h3 k (by omega);rw [Gk (by omega),Gk (by omega)] at this;exact Hd this
  rw [pw a b k k (by omega) (by omega) e] at i;rw [Kw,Gr,Hx];exact i
def runsP:List (Nat×Nat)->Nat->Nat->List Run
 | [],_,_=>[]
 | (p,q)::l,i,j=>(if i<p∨j<q then [⟨i,p-i,j,q-j⟩] else [])++runsP l (p+1) (q+1)
def optRun (i0 i j0 j:Nat):Option Run:=if i0<i∨j0<j then some ⟨i0,i-i0,j0,j-j0⟩ else none
theorem qO (i0 i j0 j:Nat):(optRun i0 i j0 j).toList=if i0<i∨j0<j then [⟨i0,i-i0,j0,j-j0⟩] else []:=by
 unfold optRun;split <;> rfl
theorem xi (i0 i j0 j:Nat) (h1:i0<=i) (h2:j0<=j):(let x:=(optRun i0 i j0 j).getD ⟨i,0,j,0⟩;some { x with dropped:=x.dropped+1 })=optRun i0 (i+1) j0 j:=by
 unfold optRun;rw [Ga (show i0<i+1∨j0<j by omega)];by_cases h:i0<i∨j0<j
 ·rw [Ga h]
  show some (Run.mk i0 (i-i0+1) j0 (j-j0))=_;rw [show i-i0+1=i+1-i0 by omega]
 ·rw [F9 h]
  show some (Run.mk i (0+1) j 0)=_;obtain rfl:i0=i:=by omega
  obtain rfl:j0=j:=by omega
  rw [show i0+1-i0=1 by omega,show j0-j0=0 by omega]
theorem xh (i0 i j0 j:Nat) (h1:i0<=i) (h2:j0<=j):(let x:=(optRun i0 i j0 j).getD ⟨i,0,j,0⟩;some { x with taken:=x.taken+1 })=optRun i0 i j0 (j+1):=by
 unfold optRun;rw [Ga (show i0<i∨j0<j+1 by omega)];by_cases h:i0<i∨j0<j
 ·rw [Ga h]
  show some (Run.mk i0 (i-i0) j0 (j-j0+1))=_;rw [show j-j0+1=j+1-j0 by omega]
 ·rw [F9 h]
  show some (Run.mk i 0 j (0+1))=_;obtain rfl:i0=i:=by omega
  obtain rfl:j0=j:=by omega
  rw [show j0+1-j0=1 by omega,show i0-i0=0 by omega]
theorem qN (i j:Nat):optRun i i j j=none:=by
 unfold optRun;rw [F9 (by omega)]
theorem re:∀ (w:List Step) (i j i0 j0:Nat),i0<=i->j0<=j->runsFrom w i j (optRun i0 i j0 j)=runsP (pairsFrom w i j++[(i+countA w,j+fV w)]) i0 j0
 | [],i,j,i0,j0,h1,h2=>by
  show (optRun i0 i j0 j).toList=(if i0<i∨j0<j then [Run.mk i0 (i-i0) j0 (j-j0)] else [])++[]
  rw [qO,Iq]
 | .keep::w,i,j,i0,j0,h1,h2=>by
  have q:=re w (i+1) (j+1) (i+1) (j+1) (Go _) (Go _);rw [qN] at q;show (optRun i0 i j0 j).toList++runsFrom w (i+1) (j+1) none=(if i0<i∨j0<j then [Run.mk i0 (i-i0) j0 (j-j0)] else [])++runsP (pairsFrom w (i+1) (j+1)++[(i+(countA w+1),j+(fV w+1))]) (i+1) (j+1)
  rw [q,qO,show i+(countA w+1)=i+1+countA w by omega,show j+(fV w+1)=j+1+fV w by omega]
 | .drop::w,i,j,i0,j0,h1,h2=>by
  have q:=re w (i+1) j i0 j0 (by omega) h2;have d:=xi i0 i j0 j h1 h2;show runsFrom w (i+1) j (let x:=(optRun i0 i j0 j).getD ⟨i,0,j,0⟩;some { x with dropped:=x.dropped+1 })=runsP (pairsFrom w (i+1) j++[(i+(countA w+1),j+fV w)]) i0 j0
  rw [d,q,show i+(countA w+1)=i+1+countA w by omega]
 | .take::w,i,j,i0,j0,h1,h2=>by
  have q:=re w i (j+1) i0 j0 h1 (by omega);have d:=xh i0 i j0 j h1 h2;show runsFrom w i (j+1) (let x:=(optRun i0 i j0 j).getD ⟨i,0,j,0⟩;some { x with taken:=x.taken+1 })=runsP (pairsFrom w i (j+1)++[(i+countA w,j+(fV w+1))]) i0 j0
  rw [d,q,show j+(fV w+1)=j+1+fV w by omega]
theorem nh (a b:List Gn):runsP (pairsOf a b++[(a.length,b.length)]) 0 0=runsOf a b:=by
 have h:=re (wayP a b) 0 0 0 0 (Go _) (Go _);rw [qN,i8,pT,IU,IU] at h;unfold runsOf;rw [oy,h];rfl
def jz:List (Option Nat)->Nat->List (Nat×Nat)
 | [],_=>[]
 | some x::l,i=>(i,x)::jz l (i+1)
 | none::l,i=>jz l (i+1)
theorem kr:∀ (w:List Step) (i j:Nat),pairsFrom w i j=jz (keptFrom w j) i
 | [],_,_=>rfl
 | .keep::w,i,j=>by
  show (i,j)::pairsFrom w (i+1) (j+1)=(i,j)::jz (keptFrom w (j+1)) (i+1);rw [kr w]
 | .drop::w,i,j=>kr w (i+1) j
 | .take::w,i,j=>kr w i (j+1)
theorem iY:∀ (w:List Step) (j:Nat),(keptFrom w j).length=countA w
 | [],_=>rfl
 | .keep::w,j=>congrArg (· + 1) (iY w (j+1))
 | .drop::w,j=>congrArg (· + 1) (iY w j)
 | .take::w,j=>iY w (j+1)
theorem oH:∀ (z:List (Option Nat)) (s k:Nat),k<s->(jz z s).lookup k=none
 | [],_,_,_=>rfl
 | some x::l,s,k,h=>by
  show ((s,x)::jz l (s+1)).lookup k=none;rw [HX,show (k == s)=false from beq_eq_false_iff_ne.mpr (by omega)];exact oH l (s+1) k (by omega)
 | none::l,s,k,h=>oH l (s+1) k (by omega)
theorem mP:∀ (z:List (Option Nat)) (s k:Nat),(jz z s).lookup (s+k)=(z[k]?).join
 | [],_,_=>by simp [jz]
 | some x::l,s,0=>by
  show ((s,x)::jz l (s+1)).lookup s=some x;rw [HX,beq_self_eq_true]
 | none::l,s,0=>by
  show (jz l (s+1)).lookup s=none;exact oH l (s+1) s (by omega)
 | some x::l,s,k+1=>by
  show ((s,x)::jz l (s+1)).lookup (s+(k+1))=_;rw [HX,show (s+(k+1) == s)=false from beq_eq_false_iff_ne.mpr (by omega),show s+(k+1)=s+1+k by omega];exact mP l (s+1) k
 | none::l,s,k+1=>by
  show (jz l (s+1)).lookup (s+(k+1))=_;rw [show s+(k+1)=s+1+k by omega];exact mP l (s+1) k
def stillOf (o a b:List Gn):List (Nat×Nat×Nat):=(pairsOf o a).filterMap fun p=>((pairsOf o b).lookup p.1).map fun y=>(p.1,p.2,y)
def oV:List (Option Nat×Option Nat)->Nat->List (Nat×Nat×Nat)
 | [],_=>[]
 | (some x,some y)::l,i=>(i,x,y)::oV l (i+1)
 | _::l,i=>oV l (i+1)
theorem vk (zb:List (Option Nat)):∀ (za zc:List (Option Nat)) (i:Nat),zb.drop i=zc->za.length=zc.length->(jz za i).filterMap (fun p=>((jz zb 0).lookup p.1).map fun y=>(p.1,p.2,y))=oV (za.zip zc) i
 | [],_,_,_,_=>by simp [jz,oV]
 | some x::l,[],i,h,h2=>by simp at h2
 | none::l,[],i,h,h2=>by simp at h2
 | some x::l,c::zc,i,h,h2=>by
  have hd:zb.drop (i+1)=zc:=by rw [← IG,h];rfl
  have q:=vk zb l zc (i+1) hd (by simpa using h2);have hi:zb[i]?=some c:=by
   have:(zb.drop i)[0]?=some c:=by rw [h];rfl
   rw [J2] at this;simpa using this
  have lk:=mP zb 0 i;rw [IU,hi] at lk;show List.filterMap _ ((i,x)::jz l (i+1))=_;rw [JV];simp only [lk];cases c with
  | none=>exact q
  | some y =>
   show (i,x,y)::_=(i,x,y)::oV (l.zip zc) (i+1);rw [q]
 | none::l,c::zc,i,h,h2=>by
  have hd:zb.drop (i+1)=zc:=by rw [← IG,h];rfl
  have q:=vk zb l zc (i+1) hd (by simpa using h2);show List.filterMap _ (jz l (i+1))=oV ((none,c)::l.zip zc) i;rw [q];cases c <;> rfl
theorem yc (o a b:List Gn):stillOf o a b=oV ((keptFrom (way o a) 0).zip (keptFrom (way o b) 0)) 0:=by
 unfold stillOf pairsOf;rw [kr,kr,oy,oy];exact vk _ _ _ 0 rfl (by rw [iY,iY,i8,i8])
def nG (o a b:List Gn):List (Nat×Nat×Nat)->(i0 j k:Nat)->List Place
 | [],i0,j,k=>[⟨o.drop i0,a.drop j,b.drop k,none⟩]
 | (i,x,y)::l,i0,j,k=>⟨someOf o i0 (i-i0),someOf a j (x-j),someOf b k (y-k),o[i]?⟩::nG o a b l (i+1) (x+1) (y+1)
theorem jx (o a b:List Gn):∀ (f:Nat) (z:List (Option Nat×Option Nat)) (i0 i j k:Nat),z.length<f->placesFrom o a b f z i0 i j k=nG o a b (oV z i) i0 j k
 | 0,z,_,_,_,_,h=>absurd h (by omega)
 | f+1,[],i0,i,j,k,h=>rfl
 | f+1,(some x,some y)::l,i0,i,j,k,h=>by
  have q:=jx o a b f l (i+1) (i+1) (x+1) (y+1) (by simp at h;omega);show _::placesFrom o a b f l (i+1) (i+1) (x+1) (y+1)=_::nG o a b (oV l (i+1)) (i+1) (x+1) (y+1);rw [q]
 | f+1,(none,some y)::l,i0,i,j,k,h=>jx o a b f l i0 (i+1) j k (by simp at h;omega)
 | f+1,(some x,none)::l,i0,i,j,k,h=>jx o a b f l i0 (i+1) j k (by simp at h;omega)
 | f+1,(none,none)::l,i0,i,j,k,h=>jx o a b f l i0 (i+1) j k (by simp at h;omega)
theorem AY (o a b:List Gn):places o a b=nG o a b (stillOf o a b) 0 0 0:=by
 unfold places;rw [yc];exact jx o a b _ _ 0 0 0 0 (by omega)
theorem mK:∀ (w:List Step) (i j:Nat),∀ p∈pairsFrom w i j,i<=p.1/\p.1<i+countA w/\j<=p.2/\p.2<j+fV w
 | [],_,_,p,h=>by simp [pairsFrom] at h
 | .keep::w,i,j,p,h=>by
  simp only [pairsFrom,Gu] at h;simp only [countA,fV];rcases h with rfl | h
  ·simp only [];omega
  ·have:=mK w _ _ p h;omega
 | .drop::w,i,j,p,h=>by
  have:=mK w _ _ p h;simp only [countA,fV];omega
 | .take::w,i,j,p,h=>by
  have:=mK w _ _ p h;simp only [countA,fV];omega
theorem pi (a b:List Gn) (p:Nat×Nat) (h:p∈pairsOf a b):p.1<a.length/\p.2<b.length:=by
 have:=mK (wayP a b) 0 0 p h;rw [i8,pT] at this;omega
inductive fj:List Gn->Prop where
 | nil:fj []
 | last {l:Gn}:l≠[]->LF∉l->fj [l]
 | cons {c:Gn} {ls:List Gn}:LF∉c->fj ls->fj ((c++[LF])::ls)
def y4 (l:Gn):Prop:=∃ c,LF∉c/\l=c++[LF]
def fJ (ls:List Gn):Prop:=∀ l∈ls,y4 l
theorem fJ.lines {ls:List Gn} (h:fJ ls):fj ls:=by
 induction ls with
 | nil=>exact .nil
 | cons l ls ih =>
  obtain ⟨c,hc,e⟩:=h l Hf;subst e;exact .cons hc (ih fun x hx=>h x (G3 _ hx))
theorem fJ.app {xs ys:List Gn} (h:fJ xs) (g:fj ys):fj (xs++ys):=by
 induction xs with
 | nil=>exact g
 | cons l ls ih =>
  obtain ⟨c,hc,e⟩:=h l Hf;subst e;exact .cons hc (ih fun x hx=>h x (G3 _ hx))
theorem fJ.append {xs ys:List Gn} (h:fJ xs) (g:fJ ys):fJ (xs++ys):=by
 intro l hl;rcases HS.mp hl with q | q
 ·exact h l q
 ·exact g l q
theorem kY:fJ []:=fun l h=>by simp at h
theorem Ac {l:Gn} (hn:LF∉l):isOpen l=true:=by
 unfold isOpen;cases h:l.getLast? with
 | none=>rfl
 | some x =>
  have:x∈l:=JO h;have:x≠LF:=fun q=>hn (q▸this)
  simp [this]
theorem fj.tail {l:Gn} {ls:List Gn} (h:fj (l::ls)):fj ls:=by
 cases h with
 | last=>exact .nil
 | cons _ h=>exact h
theorem fj.ne {l:Gn}:∀ {ls:List Gn},fj ls->l∈ls->l≠[]
 | _,.nil,h=>by simp at h
 | _,.last h _,q=>by
  have e:l=_:=G7.mp q;subst e;exact h
 | _,.cons _ t,q=>by
  rcases Gu.mp q with rfl | q
  ·simp
  ·exact fj.ne t q
theorem fj.drop:∀ {ls:List Gn} (n:Nat),fj ls->fj (ls.drop n)
 | _,0,h=>h
 | [],_+1,_ => .nil
 | _::_,n+1,h=>fj.drop n h.tail
theorem fj.take:∀ {ls:List Gn} (n:Nat),fj ls->n<ls.length->fJ (ls.take n)
 | _,0,_,_=>by simpa using kY
 | _,n+1,.nil,h=>by simp at h
 | _,n+1,.last _ _,h=>by simp at h
 | _,n+1,.cons hc t,h=>by
  rw [LG];intro l hl;rcases Gu.mp hl with rfl | hl
  ·exact ⟨_,hc,rfl⟩
  ·exact fj.take n t (by simpa using h) l hl
theorem fj.takeL:∀ {ls:List Gn} (n:Nat),fj ls->fj (ls.take n)
 | _,0,_=>by simpa using fj.nil
 | _,n+1,.nil=>by simpa using fj.nil
 | _,n+1,.last h g=>by simpa using fj.last h g
 | _,n+1,.cons hc t=>by rw [LG];exact .cons hc (fj.takeL n t)
theorem fj.closed_of:∀ {ls:List Gn},fj ls->(ls.getLast?.map isOpen).getD false=false->fJ ls
 | _,.nil,_=>kY
 | _,.last (l:=l) h g,e=>by
  simp [Ac g] at e
 | _,.cons (c:=c) (ls:=ls) hc t,e=>by
  intro l hl;rcases Gu.mp hl with rfl | hl
  ·exact ⟨_,hc,rfl⟩
  ·refine fj.closed_of t ?_ l hl
   cases ls with
   | nil=>simp
   | cons z ls=>simpa [List.getLast?_cons_cons] using e
theorem xu:joinedL []=[]:=rfl
theorem iZ (l:Gn) (ls:List Gn):joinedL (l::ls)=l++joinedL ls:=by simp [joinedL]
theorem f7 (xs ys:List Gn):joinedL (xs++ys)=joinedL xs++joinedL ys:=by simp [joinedL]
theorem mQ (n:Nat):linesIn n []=[]:=by cases n <;> rfl
theorem vm {b:Gn} (h:LF∉b):b.takeWhile (fun (c:UInt8)=>c != LF)=b:=by
 induction b with
 | nil=>rfl
 | cons x b ih =>
  have hx:x≠LF:=fun q=>h (q▸Hf)
  rw [List.takeWhile_cons,Ga (by simp [hx]),ih fun q=>h (G3 _ q)]
theorem vo {c r:Gn} (h:LF∉c):(c++LF::r).takeWhile (fun (c:UInt8)=>c != LF)=c:=by
 rw [List.takeWhile_append_of_pos]
 ·simp
 ·intro x hx
  have:x≠LF:=fun q=>h (q▸hx)
  simp [this]
theorem pF (n:Nat) {l:Gn} (hn:l≠[]) (h:LF∉l):linesIn (n+1) l=[l]:=by
 match l,hn with
 | x::l,_ =>
  show ((x::l).take (min (x::l).length (((x::l).takeWhile fun (c:UInt8)=>c != LF).length+1))::linesIn n ((x::l).drop (min (x::l).length (((x::l).takeWhile fun (c:UInt8)=>c != LF).length+1))))=_
  rw [vm h,Lm (by omega),Ib,Ik,mQ]
theorem mR (n:Nat) {c r:Gn} (h:LF∉c):linesIn (n+1) (c++LF::r)=(c++[LF])::linesIn n r:=by
 have e:∀ b:Gn,b≠[]->linesIn (n+1) b=b.take (min b.length ((b.takeWhile fun (c:UInt8)=>c != LF).length+1))::linesIn n (b.drop (min b.length ((b.takeWhile fun (c:UInt8)=>c != LF).length+1))):=by
  intro b hb
  match b,hb with
  | x::b,_=>rfl
 rw [e _ (by simp),vo h,Nat.min_eq_right (by simp)];have a1:(c++LF::r)=(c++[LF])++r:=by simp
 rw [a1,List.take_left' (by simp),List.drop_left' (by simp)]
theorem BR (b:Gn):LF∉b∨∃ c r,LF∉c/\b=c++LF::r:=by
 induction b with
 | nil=>left;simp
 | cons x b ih =>
  by_cases hx:x=LF
  ·right;exact ⟨[],b,by simp,by rw [hx];rfl⟩
  ·rcases ih with h | ⟨c,r,hc,e⟩
   ·left
    intro q;rcases Gu.mp q with q | q
    ·exact hx q.symm
    ·exact h q
   ·right
    refine ⟨x::c,r,?_,by rw [e];rfl⟩;intro q;rcases Gu.mp q with q | q
    ·exact hx q.symm
    ·exact hc q
theorem oJ:∀ (n:Nat) (b:Gn),b.length<n->fj (linesIn n b)/\joinedL (linesIn n b)=b
 | 0,b,h=>absurd h (by omega)
 | n+1,b,h=>by
  rcases BR b with hb | ⟨c,r,hc,e⟩
  ·by_cases e:b=[]
   ·subst e;rw [mQ];exact ⟨.nil,rfl⟩
   ·rw [pF n e hb];exact ⟨.last e hb,by simp [joinedL]⟩
  ·subst e
   have i:=oJ n r (by simp at h;omega);rw [mR n hc,iZ,i.2];exact ⟨.cons hc i.1,by simp⟩
theorem gp (b:Gn):fj (linesOf b):=(oJ _ b (by omega)).1
theorem fK (b:Gn):joinedL (linesOf b)=b:=(oJ _ b (by omega)).2
theorem fj.uniqIn:∀ {ls:List Gn} (n:Nat),fj ls->(joinedL ls).length<n->linesIn n (joinedL ls)=ls
 | _,n,.nil,_=>by rw [xu,mQ]
 | _,0,_,h=>absurd h (by omega)
 | _,n+1,.last (l:=l) h g,hn=>by
  have e:joinedL [l]=l:=by simp [joinedL]
  rw [e,pF n h g]
 | _,n+1,.cons (c:=c) (ls:=ls) hc t,hn=>by
  have e:joinedL ((c++[LF])::ls)=c++LF::joinedL ls:=by simp [joinedL]
  rw [e] at hn ⊢;rw [mR n hc,fj.uniqIn n t (by simp at hn;omega)]
theorem fj.uniq {ls:List Gn} (h:fj ls):linesOf (joinedL ls)=ls:=h.uniqIn _ (by omega)
theorem xp {ls:List Gn} {b:Gn} (h:fj ls) (e:joinedL ls=b):linesOf b=ls:=by subst e;exact h.uniq
theorem xr (xs:Gn) {ys:Gn} (h:ys≠[]):(xs++ys).getLast?=ys.getLast?:=by
 rw [List.getLast?_append];cases e:ys.getLast? with
 | none=>exact absurd (List.getLast?_eq_none_iff.mp e) h
 | some x=>rfl
theorem fj.count:∀ {ls:List Gn},fj ls->ls.length=(joinedL ls).count LF+(if joinedL ls≠[]/\isOpen (joinedL ls)=true then 1 else 0)
 | _,.nil=>by simp [joinedL]
 | _,.last (l:=l) h g=>by
  have e:joinedL [l]=l:=by simp [joinedL]
  rw [e,Ga ⟨h,Ac g⟩,List.count_eq_zero.mpr g];rfl
 | _,.cons (c:=c) (ls:=ls) hc t=>by
  have i:=fj.count t;rw [iZ,GQ,List.count_append,List.count_append,List.count_eq_zero.mpr hc,i];have hl:[LF].count LF=1:=by decide
  rw [hl];by_cases e:joinedL ls=[]
  ·rw [e]
   have:isOpen (c++[LF]++[])=false:=by simp [isOpen]
   rw [this];simp
  ·have:isOpen (c++[LF]++joinedL ls)=isOpen (joinedL ls):=by
    unfold isOpen;rw [xr _ e]
   rw [this];have:c++[LF]++joinedL ls≠[]:=by simp
   simp [this,e];omega
theorem iN (b:Gn):(linesOf b).length=b.count LF+(if b≠[]/\isOpen b=true then 1 else 0):=by
 have h:=(gp b).count;rw [fK] at h;exact h
theorem Bo {cs:List Gn} {b t:Gn} (h:fJ cs) (ht:LF∉t) (e:b=joinedL cs++t):linesOf b=if t=[] then cs else cs++[t]:=by
 by_cases q:t=[]
 ·rw [Ga q]
  subst q;exact xp h.lines (by rw [e];simp)
 ·rw [F9 q]
  exact xp (h.app (.last q ht)) (by rw [f7,e];simp [joinedL])
theorem oN (ls:List Gn):(joinedL ls).length=(ls.map Ih).sum:=by
 induction ls with
 | nil=>rfl
 | cons l ls ih=>rw [iZ,Gi,ih];rfl
theorem vM {ls:List Gn} (h:fj ls):isText (joinedL ls)=(decide (ls.length<=LINES) && decide ((ls.map Ih).sum<=TEXT)):=by
 unfold isText;rw [h.uniq,oN,Bool.and_comm]
theorem DC:ofLe []=0:=rfl
theorem qy (c:UInt8) (b:Gn):ofLe (c::b)=c.toNat+256*ofLe b:=rfl
theorem Ag:∀ b:Gn,ofLe b<256 ^ b.length
 | []=>by decide
 | c::b=>by
  have h:=Ag b;have hc:=c.toNat_lt;rw [qy,GQ,Kc];omega
theorem pA (b:Gn) (h:b.length<=4):ofLe b<4294967296:=by
 have h1:=Ag b;have h2:256 ^ b.length<=256 ^ 4:=Ly (by decide) h;have h3:256 ^ 4=4294967296:=by decide
 omega
theorem le4 (n:Nat):le 4 n=[J1 (n % 256),J1 (n / 256 % 256),J1 (n / 65536 % 256),J1 (n / 16777216 % 256)]:=by
 simp [le,IR,IR.loop]
theorem gg (n:Nat):(le 4 n).length=4:=by rw [le4];rfl
theorem mx (n:Nat) (h:n<256):(J1 n).toNat=n:=by
 rw [UInt8.toNat_ofNat'];exact Nat.mod_eq_of_lt h
theorem pG (b:Gn) (h:b.length=4):le 4 (ofLe b)=b:=by
 match b,h with
 | [c0,c1,c2,c3],_ =>
  have h0:=c0.toNat_lt;have h1:=c1.toNat_lt;have h2:=c2.toNat_lt;have h3:=c3.toNat_lt;rw [le4];simp only [qy,DC];rw [show (c0.toNat+256*(c1.toNat+256*(c2.toNat+256*(c3.toNat+256*0)))) % 256=c0.toNat by omega,
   show (c0.toNat+256*(c1.toNat+256*(c2.toNat+256*(c3.toNat+256*0)))) / 256 % 256=c1.toNat by omega,
   show (c0.toNat+256*(c1.toNat+256*(c2.toNat+256*(c3.toNat+256*0)))) / 65536 % 256=c2.toNat by omega,
   show (c0.toNat+256*(c1.toNat+256*(c2.toNat+256*(c3.toNat+256*0)))) / 16777216 % 256=c3.toNat by omega]
  simp
theorem gF (b:Gn) (p n:Nat) (h:p+n<=b.length):(part b p n).length=n:=by
 unfold part;rw [HF,Hv];omega
theorem jq (b:Gn) (p n m:Nat):part b p (n+m)=part b p n++part b (p+n) m:=by
 unfold part;rw [List.take_add,IG]
theorem uI:∀ (m b:Gn) (p:Nat),must p m b=none->b.take m.length=m
 | [],b,_,_=>by simp
 | x::m,[],_,h=>by simp [must] at h
 | x::m,c::b,p,h=>by
  unfold must at h;by_cases e:c=x
  ·rw [Ga e] at h
   have i:=uI m b (p+1) h;rw [GQ,LG,i,e]
  ·rw [F9 e] at h;cases h
theorem sI:∀ (m b:Gn) (p:Nat),must p m b=none->m.length<=b.length
 | [],b,_,_=>by simp
 | x::m,[],_,h=>by simp [must] at h
 | x::m,c::b,p,h=>by
  unfold must at h;by_cases e:c=x
  ·rw [Ga e] at h
   have i:=sI m b (p+1) h;simp;omega
  ·rw [F9 e] at h;cases h
def encP (p:Ju):Gn:=le 4 p.from_++(le 4 p.dropped++(le 4 p.bytes.length++p.bytes))
theorem gk (l:List Ju):patchBytes l=ascii "SWV1" ++ (le 4 l.length++l.flatMap encP):=rfl
def lastBad (last:Option Nat) (f:Nat):Bool:=match last with
 | some e=>decide (f<=e)
 | none=>false
def iJ (a:List Gn) (last:Option Nat) (f d k:Nat):Prop:=lastBad last f=true∨a.length<f+d∨(d=0/\k=0)∨(d=0/\f=a.length/\(a.getLast?.map isOpen).getD false=true)
instance (a:List Gn) (last:Option Nat) (f d k:Nat):Decidable (iJ a last f d k):=by unfold iJ;infer_instance
theorem oj (a:List Gn) (b:Gn) (n p:Nat) (last:Option Nat):readRuns a b (n+1) p last =
  if b.length<p+12 then .error ⟨1,b.length⟩
  else if iJ a last (ofLe (part b p 4)) (ofLe (part b (p+4) 4)) (ofLe (part b (p+8) 4)) then .error ⟨3,p⟩
   else if b.length<p+12+ofLe (part b (p+8) 4) then .error ⟨1,b.length⟩
   else if ((linesOf (part b (p+12) (ofLe (part b (p+8) 4)))).getLast?.filter isOpen).getD []≠[]/\((ofLe (part b p 4)+ofLe (part b (p+4) 4) == a.length)=false∨n≠0) then .error ⟨3,p+12+ofLe (part b (p+8) 4)-(((linesOf (part b (p+12) (ofLe (part b (p+8) 4)))).getLast?.filter isOpen).getD []).length⟩
    else (readRuns a b n (p+12+ofLe (part b (p+8) 4)) (some (ofLe (part b p 4)+ofLe (part b (p+4) 4)))).map fun (x:List Ju×Nat)=>(⟨ofLe (part b p 4),ofLe (part b (p+4) 4),part b (p+12) (ofLe (part b (p+8) 4))⟩::x.1,x.2):=rfl
def gq (a:List Gn):Nat->List Ju->Prop
 | _,[]=>True
 | i,p::l=>i<=p.from_/\p.from_+p.dropped<=a.length/\((l≠[]∨p.from_+p.dropped≠a.length)->fJ (linesOf p.bytes))/\(p.dropped=0->p.bytes≠[]/\(p.from_=a.length->(a.getLast?.map isOpen).getD false=false)) /\
   p.from_<4294967296/\p.dropped<4294967296/\p.bytes.length<4294967296/\gq a (p.from_+p.dropped) l
theorem C1 {z:Gn} (h:((linesOf z).getLast?.filter isOpen).getD []=[]):fJ (linesOf z):=by
 have L:=gp z;refine L.closed_of ?_;cases e:(linesOf z).getLast? with
 | none=>rfl
 | some x =>
  rw [e] at h;have hx:x≠[]:=L.ne (JO e);cases o:isOpen x with
  | false=>simp [o]
  | true=>simp [Kg,o] at h;exact absurd h hx
theorem qK (a:List Gn) (b:Gn):∀ (n p:Nat) (last:Option Nat) (l:List Ju) (q:Nat) (i:Nat),p<=b.length->(∀ e,last=some e->i<=e)->(last=none->i=0)->readRuns a b n p last = .ok (l,q) ->
  gq a i l/\l.length=n/\p<=q/\q<=b.length/\part b p (q-p)=l.flatMap encP
 | 0,p,last,l,q,i,hp,h1,h2,h=>by
  cases h;refine ⟨trivial,rfl,Go _,hp,?_⟩;rw [Jz];simp [part]
 | n+1,p,last,l,q,i,hp,h1,h2,h=>by
  rw [oj] at h;by_cases c1:b.length<p+12
  ·rw [Ga c1] at h;cases h
  rw [F9 c1] at h;by_cases c2:iJ a last (ofLe (part b p 4)) (ofLe (part b (p+4) 4)) (ofLe (part b (p+8) 4))
  ·rw [Ga c2] at h;cases h
  rw [F9 c2] at h;by_cases c3:b.length<p+12+ofLe (part b (p+8) 4)
  ·rw [Ga c3] at h;cases h
  rw [F9 c3] at h;split at h
  ·cases h
  rename_i c4;cases e:readRuns a b n (p+12+ofLe (part b (p+8) 4)) (some (ofLe (part b p 4)+ofLe (part b (p+4) 4))) with
  | error x=>rw [e] at h;cases h
  | ok x =>
   rw [e] at h;obtain ⟨l',q'⟩:=x;have hh:(⟨ofLe (part b p 4),ofLe (part b (p+4) 4),part b (p+12) (ofLe (part b (p+8) 4))⟩::l',q')=(l,q):=by
    injection h
   have hl:=(Prod.mk.inj hh).1;have hq:q'=q:=(Prod.mk.inj hh).2;subst hq;subst hl;obtain ⟨r1,r2,r3,r4,r5⟩:=qK a b n _ _ l' q' (ofLe (part b p 4)+ofLe (part b (p+4) 4)) (by omega) (fun e he=>by cases he;exact Go _) (fun z=>by cases z) e
   have kl:(part b (p+12) (ofLe (part b (p+8) 4))).length=ofLe (part b (p+8) 4):=gF _ _ _ (by omega);have hf:i<=ofLe (part b p 4):=by
    cases last with
    | none=>rw [h2 rfl];omega
    | some z =>
     have:=h1 z rfl;by_cases g:ofLe (part b p 4)<=z
     ·exact absurd (Gy (by simpa [lastBad] using g)) c2
     ·omega
   refine ⟨⟨hf,?_,?_,?_,?_,?_,?_,r1⟩,by simp [r2],by omega,r4,?_⟩
   ·show ofLe (part b p 4)+ofLe (part b (p+4) 4)<=a.length
    exact Mc fun g=>c2 (.inr (.inl g))
   ·intro g
    apply C1;apply JI;intro o;refine c4 ⟨o,?_⟩;rcases g with g | g
    ·right
     intro z;subst z;cases l' with
     | nil=>exact g rfl
     | cons _ _=>simp at r2
    ·left
     exact beq_eq_false_iff_ne.mpr g
   ·intro (d:ofLe (part b (p+4) 4)=0)
    refine ⟨?_,?_⟩
    ·intro (z:part b (p+12) (ofLe (part b (p+8) 4))=[])
     rw [z] at kl;exact c2 (.inr (.inr (.inl ⟨d,by simpa using kl.symm⟩)))
    ·intro (z:ofLe (part b p 4)=a.length)
     apply JI;intro o;exact c2 (.inr (.inr (.inr ⟨d,z,by simpa using o⟩)))
   ·exact pA _ (by rw [gF _ _ _ (by omega)];exact Go _)
   ·exact pA _ (by rw [gF _ _ _ (by omega)];exact Go _)
   ·show (part b (p+12) (ofLe (part b (p+8) 4))).length<4294967296
    rw [kl];exact pA _ (by rw [gF _ _ _ (by omega)];exact Go _)
   ·rw [I0,← r5]
    unfold encP;simp only [];rw [kl,pG _ (gF _ _ _ (by omega)),pG _ (gF _ _ _ (by omega)),pG _ (gF _ _ _ (by omega))];have e1:q'-p=4+(4+(4+(ofLe (part b (p+8) 4)+(q'-(p+12+ofLe (part b (p+8) 4)))))):=by omega
    generalize ofLe (part b (p+8) 4)=k at *;rw [e1,jq,jq,jq,jq];simp only [Hx]
theorem lW {a:List Gn} {b:Gn} {l:List Ju} (h:readPatch a b = .ok l):gq a 0 l/\patchBytes l=b/\l.length<4294967296:=by
 unfold readPatch at h;split at h
 ·cases h
 rename_i hm;by_cases c1:b.length<8
 ·rw [Ga c1] at h;cases h
 rw [F9 c1] at h;split at h
 ·cases h
 rename_i x hx;obtain ⟨l',q⟩:=x;by_cases c2:q<b.length
 ·rw [Ga c2] at h;cases h
 rw [F9 c2] at h;have hl:l'=l:=by injection h
 subst hl;obtain ⟨r1,r2,r3,r4,r5⟩:=qK a b _ 8 none l' q 0 (by omega) (fun e he=>by cases he) (fun _=>rfl) hx
 have hq:q=b.length:=by omega
 subst hq;refine ⟨r1,?_,by rw [r2];exact pA _ (by rw [gF _ _ _ (by omega)];exact Go _)⟩;have m4:=uI _ _ _ hm;have len:(ascii "SWV1").length=4:=by decide
 rw [len] at m4;rw [gk,r2,pG _ (gF _ _ _ (by omega)),← r5,← m4];have e0:b.take 4=part b 0 4:=by simp [part]
 have e1:b=part b 0 (4+(4+(b.length-8))):=by
  unfold part;rw [Ip,Im (by omega)]
 conv=>rhs;rw [e1]
 rw [jq,jq,e0]
theorem gq.lines {a:List Gn} (L:fj a):∀ {l:List Ju} {i:Nat},gq a i l->fj (patched a i l)
 | [],i,_=>L.drop i
 | p::l,i,⟨h1,h2,h3,h4,_,_,_,h5⟩=>by
  have ih:=gq.lines L h5;show fj (someOf a i (p.from_-i)++(linesOf p.bytes++patched a (p.from_+p.dropped) l));have t:fj (linesOf p.bytes++patched a (p.from_+p.dropped) l):=by
   by_cases c:l≠[]∨p.from_+p.dropped≠a.length
   ·exact (h3 c).app ih
   ·have c1:l=[]:=JI fun z=>c (.inl z)
    have c2:p.from_+p.dropped=a.length:=JI fun z=>c (.inr z)
    subst c1;show fj (linesOf p.bytes++a.drop (p.from_+p.dropped));rw [c2,Ik,Iq];exact gp _
  by_cases c:p.from_<a.length
  ·refine fJ.app ?_ t
   intro x hx;have:=L.take p.from_ c;apply this;unfold someOf at hx;have e:(a.drop i).take (p.from_-i)=(a.take p.from_).drop i:=by rw [List.drop_take]
   rw [e] at hx;exact List.mem_of_mem_drop hx
  ·have e1:p.from_=a.length:=by omega
   have e2:p.dropped=0:=by omega
   obtain ⟨g1,g2⟩:=h4 e2;have ac:=L.closed_of (g2 e1);refine fJ.app ?_ t;intro x hx;apply ac;unfold someOf at hx;exact List.mem_of_mem_drop (List.mem_of_mem_take hx)
theorem uy:∀ (l:List (Nat×Nat)) (i j:Nat),(runsP l i j).length<=l.length
 | [],_,_=>by simp [runsP]
 | (p,q)::l,i,j=>by
  have h:=uy l (p+1) (q+1);simp only [runsP,Gi,GQ];split <;> simp <;> omega
theorem iL:∀ (w:List Step) (i j:Nat),(pairsFrom w i j).length<=countA w
 | [],_,_=>by simp [pairsFrom,countA]
 | .keep::w,i,j=>by
  have:=iL w (i+1) (j+1);simp [pairsFrom,countA];omega
 | .drop::w,i,j=>by
  have:=iL w (i+1) j;simp [pairsFrom,countA];omega
 | .take::w,i,j=>by
  have:=iL w i (j+1);simp [pairsFrom,countA];omega
theorem oC (a b:List Gn):(runsOf a b).length<=a.length+1:=by
 rw [← nh];have h:=uy (pairsOf a b++[(a.length,b.length)]) 0 0;have h2:=iL (wayP a b) 0 0;rw [i8] at h2;rw [Gi] at h;unfold pairsOf at h ⊢;simp at h;omega
def Up:List (Nat×Nat)->Nat->Nat->Prop
 | [],_,_=>True
 | (p,q)::l,i,j=>i<=p/\j<=q/\Up l (p+1) (q+1)
theorem Up.weak:∀ {l:List (Nat×Nat)} {i j i' j':Nat},Up l i j->i'<=i->j'<=j->Up l i' j'
 | [],_,_,_,_,_,_,_=>trivial
 | (p,q)::l,i,j,i',j',⟨h1,h2,h3⟩,h4,h5=>⟨by omega,by omega,h3⟩
theorem pk:∀ (w:List Step) (i j:Nat),Up (pairsFrom w i j++[(i+countA w,j+fV w)]) i j
 | [],i,j=>⟨Go _,Go _,trivial⟩
 | .keep::w,i,j=>by
  have h:=pk w (i+1) (j+1);refine ⟨Go _,Go _,?_⟩;rw [show i+countA (Step.keep::w)=i+1+countA w by simp only [countA];omega,show j+fV (Step.keep::w)=j+1+fV w by simp only [fV];omega];exact h
 | .drop::w,i,j=>by
  have h:=pk w (i+1) j;rw [show i+countA (Step.drop::w)=i+1+countA w by simp only [countA];omega,show j+fV (Step.drop::w)=j+fV w by simp only [fV]];exact h.weak (by omega) (Go _)
 | .take::w,i,j=>by
  have h:=pk w i (j+1);rw [show i+countA (Step.take::w)=i+countA w by simp only [countA],show j+fV (Step.take::w)=j+1+fV w by simp only [fV];omega];exact h.weak (Go _) (by omega)
theorem jr (a b:List Gn):Up (pairsOf a b++[(a.length,b.length)]) 0 0:=by
 have h:=pk (wayP a b) 0 0;rw [i8,pT,IU,IU] at h;exact h
theorem wU (n m:Nat):∀ (l:List (Nat×Nat)) (i j:Nat),Up l i j->(∀ p∈l,p.1<=n/\p.2<=m)->∀ r∈runsP l i j,r.from_+r.dropped<=n/\r.place+r.taken<=m
 | [],_,_,_,_,r,h=>by simp [runsP] at h
 | (p,q)::l,i,j,⟨u1,u2,u3⟩,hb,r,h=>by
  have b0:=hb (p,q) Hf;simp only [runsP,HS] at h;rcases h with h | h
  ·split at h
   ·simp at h;subst h;simp only at b0 ⊢;omega
   ·simp at h
  ·exact wU n m l (p+1) (q+1) u3 (fun z hz=>hb z (G3 _ hz)) r h
theorem zW (a b:List Gn):∀ r∈runsOf a b,r.from_+r.dropped<=a.length/\r.place+r.taken<=b.length:=by
 rw [← nh];refine wU _ _ _ 0 0 (jr a b) ?_;intro p hp;rcases HS.mp hp with h | h
 ·have:=pi a b p h;omega
 ·simp at h;subst h;simp
def linesRun (b:List Gn) (r:Run):Nat×Nat×List Gn:=(r.from_,r.dropped,someOf b r.place r.taken)
def between (a b:List Gn):List (Nat×Nat×List Gn):=(runsOf a b).map (linesRun b)
def toPiece (x:Nat×Nat×List Gn):Ju:=⟨x.1,x.2.1,joinedL x.2.2⟩
def ofPiece (p:Ju):Nat×Nat×List Gn:=(p.from_,p.dropped,linesOf p.bytes)
theorem lx (a b:List Gn):piecesOf a b=(between a b).map toPiece:=by
 unfold piecesOf between;rw [Ic];rfl
theorem ya (p:Ju):toPiece (ofPiece p)=p:=by
 cases p;simp [toPiece,ofPiece,fK]
theorem Bs {xs ys:List Gn} (h:xs.Sublist ys):(joinedL xs).length<=(joinedL ys).length:=by
 rw [oN,oN];induction h with
 | slnil=>exact Go _
 | cons a _ ih=>simp;omega
 | cons_cons a _ ih=>simp;omega
theorem vy {b:List Gn} (h:fj b) (i n:Nat):fj (someOf b i n):=(h.drop i).takeL n
theorem xL {a:List Gn} {p:Ju} {l:List Ju} {i:Nat} {k:Int} (h:gq a i (p::l)) (hk:0<=k+i):0<=k+p.from_/\0<=(k+(linesOf p.bytes).length-p.dropped)+((p.from_+p.dropped:Nat):Int):=by
 obtain ⟨h1,_⟩:=h;constructor
 ·omega
 ·push_cast;omega
theorem yp:∀ (n:Nat) (a b:List Gn),a.length+b.length<=n->∀ (i j:Nat) (p:Nat×Nat),p∈pairsFrom (wayP a b) i j->i<=p.1/\j<=p.2/\a[p.1-i]?=b[p.2-j]?:=by
 intro n;induction n with
 | zero =>
  intro a b h i j p hp;have ha:a=[]:=HQ.mp (by omega);subst ha;rw [qw] at hp;simp at hp
 | succ n ih =>
  intro a b h i j p hp
  match a,b with
  | [],b=>rw [qw] at hp;simp at hp
  | x::l,[]=>rw [sF] at hp;simp at hp
  | x::l,y::m =>
   simp only [GQ] at h;rw [m6] at hp;by_cases e:x=y
   ·rw [Ga e] at hp
    have hp:p∈(i,j)::pairsFrom (wayP l m) (i+1) (j+1):=hp;rcases Gu.mp hp with rfl | hp
    ·refine ⟨Go _,Go _,?_⟩
     simp [e]
    ·obtain ⟨h1,h2,h3⟩:=ih l m (by omega) (i+1) (j+1) p hp
     refine ⟨by omega,by omega,?_⟩;rw [show p.1-i=(p.1-(i+1))+1 by omega,show p.2-j=(p.2-(j+1))+1 by omega,Iw,Iw,h3]
   ·rw [F9 e] at hp
    split at hp
    ·have hp:p∈pairsFrom (wayP l (y::m)) (i+1) j:=hp
     obtain ⟨h1,h2,h3⟩:=ih l (y::m) (by simp only [GQ];omega) (i+1) j p hp;refine ⟨by omega,by omega,?_⟩;rw [show p.1-i=(p.1-(i+1))+1 by omega,Iw,h3]
    ·have hp:p∈pairsFrom (wayP (x::l) m) i (j+1):=hp
     obtain ⟨h1,h2,h3⟩:=ih (x::l) m (by simp only [GQ];omega) i (j+1) p hp;refine ⟨by omega,by omega,?_⟩;rw [show p.2-j=(p.2-(j+1))+1 by omega,Iw,h3]
theorem uG {a b:List Gn} {p:Nat×Nat} (h:p∈pairsOf a b):a[p.1]?=b[p.2]?:=by
 have:=(yp _ a b (Go _) 0 0 p h).2.2;simpa using this
def tG (o a b:List Gn):List (Nat×Nat×Nat)->Nat->Nat->Nat->Prop
 | [],_,_,_=>True
 | (i,x,y)::l,i0,j,k=>i0<=i/\i<o.length/\j<=x/\x<a.length/\k<=y/\y<b.length/\o[i]?=a[x]?/\o[i]?=b[y]?/\tG o a b l (i+1) (x+1) (y+1)
theorem sK {l:List (Nat×Nat)} {k v:Nat} (h:l.lookup k=some v):(k,v)∈l:=by
 induction l with
 | nil=>simp at h
 | cons p l ih =>
  obtain ⟨a,b⟩:=p;rw [HX] at h;by_cases e:k == a
  ·rw [e] at h
   have e':k=a:=eq_of_beq e;cases h;subst e';exact Hf
  ·have e':(k == a)=false:=by simpa using e
   rw [e'] at h;exact G3 _ (ih h)
theorem Up.ge:∀ {l:List (Nat×Nat)} {i j:Nat},Up l i j->∀ p∈l,i<=p.1/\j<=p.2
 | [],_,_,_,p,hp=>by simp at hp
 | (x,y)::l,i,j,⟨h1,h2,h3⟩,p,hp=>by
  rcases Gu.mp hp with rfl | hp
  ·exact ⟨h1,h2⟩
  ·have:=Up.ge h3 p hp;omega
theorem Up.app:∀ {l m:List (Nat×Nat)} {i j:Nat},Up (l++m) i j->Up l i j
 | [],_,_,_,_=>trivial
 | (x,y)::l,m,i,j,⟨h1,h2,h3⟩=>⟨h1,h2,Up.app h3⟩
theorem Up.lt:∀ {l:List (Nat×Nat)} {i j:Nat},Up l i j->∀ p∈l,∀ q∈l,p.1<q.1->p.2<q.2
 | [],_,_,_,p,hp,_,_,_=>by simp at hp
 | (x,y)::l,i,j,⟨h1,h2,h3⟩,p,hp,q,hq,h=>by
  rcases Gu.mp hp with rfl | hp
  ·rcases Gu.mp hq with rfl | hq
   ·omega
   ·have:=h3.ge q hq;simp only;omega
  ·rcases Gu.mp hq with rfl | hq
   ·have:=h3.ge p hp;simp only at h;omega
   ·exact Up.lt h3 p hp q hq h
theorem rR (o a b:List Gn):∀ (l:List (Nat×Nat)) (i0 j k:Nat),(∀ p∈l,p∈pairsOf o a)->Up l i0 j->(∀ p∈pairsOf o b,i0<=p.1->k<=p.2) ->
  tG o a b (l.filterMap fun p=>((pairsOf o b).lookup p.1).map fun y=>(p.1,p.2,y)) i0 j k
 | [],_,_,_,_,_,_=>trivial
 | (i,x)::l,i0,j,k,hm,⟨u1,u2,u3⟩,hk=>by
  rw [JV];have m0:=hm (i,x) Hf;have hm':∀ p∈l,p∈pairsOf o a:=fun p hp=>hm p (G3 _ hp)
  have b0:=pi o a _ m0;cases e:(pairsOf o b).lookup i with
  | none =>
   simp only [e,Option.map_none];exact rR o a b l i0 j k hm' (u3.weak (by omega) (by omega)) hk
  | some y =>
   simp only [e,Ko];have my:=sK e;have b1:=pi o b _ my;refine ⟨u1,b0.1,u2,b0.2,hk _ my u1,b1.2,uG m0,uG my,?_⟩;refine rR o a b l (i+1) (x+1) (y+1) hm' u3 fun p hp h=>?_
   exact (Up.app (jr o b)).lt _ my p hp (by simp only;omega)
theorem rS (o a b:List Gn):tG o a b (stillOf o a b) 0 0 0:=rR o a b _ 0 0 0 (fun _ h=>h) (Up.app (jr o a)) fun _ _ _=>G5 _
def jc (out:Gn) (A B:List Gn):Gn:=marked (marked (marked out (ascii "<<<<<<<")++joinedL A) (ascii "=======")++joinedL B) (ascii ">>>>>>>")
abbrev MSt:=Gn×Nat×Nat
def addPlace (O A B:List Gn) (s:MSt):MSt :=
 if A=O then (s.1++joinedL B,s.2.1,s.2.2) else if B=O∨A=B then (s.1++joinedL A,s.2.1,s.2.2) else (jc s.1 A B,s.2.1+1,if s.2.1=0 then s.1.length else s.2.2)
def addLines (ls:List Gn) (s:MSt):MSt:=(s.1++joinedL ls,s.2.1,s.2.2)
def pmerge (o a b:List Gn):List (Nat×Nat×Nat)->(i0 j k:Nat)->MSt->MSt
 | [],_,_,_,s=>s
 | (i,x,y)::l,i0,j,k,s=>pmerge o a b l (i+1) (x+1) (y+1) (addLines (someOf o i 1) (addPlace (someOf o i0 (i-i0)) (someOf a j (x-j)) (someOf b k (y-k)) s))
def BH (out:Gn):Prop:=out=[]∨isOpen out=false
theorem xn {out m:Gn} (h:BH out):(marked out m).length=out.length+m.length+1:=by
 unfold marked;rw [F9]
 ·simp;omega
 ·intro ⟨h1,h2⟩
  rcases h with h | h
  ·exact h1 h
  ·rw [h] at h2;cases h2
theorem oX {O A B:List Gn} {t:Option Gn} {out:Gn} {n p:Nat} {l:List Place} (h:BH out∨(A=O)) :
  mergedFrom (⟨O,A,B,t⟩::l) out n p=mergedFrom l ((addPlace O A B (out,n,p)).1++t.getD []) (addPlace O A B (out,n,p)).2.1 (addPlace O A B (out,n,p)).2.2:=by
 unfold addPlace;show (match (Place.stands ⟨O,A,B,t⟩) with
  | some s=>mergedFrom l (out++(joinedL s++t.getD [])) n p
  | none=>mergedFrom l (jc out A B++t.getD []) (n+1) (if n=0 then (marked out (ascii "<<<<<<<")).length-8 else p))=_
 unfold Place.stands;simp only;by_cases c1:A=O
 ·rw [Ga c1,Ga c1];simp only [Hx]
 ·rw [F9 c1,F9 c1]
  by_cases c2:B=O
  ·rw [Ga c2,Ga (Gy c2)];simp only [Hx]
  ·rw [F9 c2]
   by_cases c3:A=B
   ·rw [Ga c3,Ga (Or.inr c3)];simp only [Hx]
   ·have c4:¬ (B=O∨A=B):=fun z=>z.elim c2 c3
    rw [F9 c3,F9 c4];have g:BH out:=by
     rcases h with h | h
     ·exact h
     ·exact absurd h c1
    show mergedFrom l (jc out A B++t.getD []) (n+1) (if n=0 then (marked out (ascii "<<<<<<<")).length-8 else p)=mergedFrom l (jc out A B++t.getD []) (n+1) (if n=0 then out.length else p)
    have e7:(ascii "<<<<<<<").length=7:=by decide
    rw [xn g,e7,show out.length+7+1-8=out.length by omega]
theorem oz (l:List Gn) (i:Nat):someOf l i (l.length-i)=l.drop i:=by
 unfold someOf;rw [Im (by rw [Hv];exact Go _)]
theorem yg (l:List Gn) (i:Nat) (h:i<l.length):someOf l i 1=[l[i]]:=by
 unfold someOf;rw [GX h];rfl
theorem fj.open_last:∀ {ls:List Gn},fj ls->∀ (i:Nat) (x:Gn),ls[i]?=some x->isOpen x=true->i+1=ls.length
 | _,.nil,i,x,h,_=>by simp at h
 | _,.last h1 h2,i,x,h,o=>by
  have:=(Gj.mp h).1;simp at this ⊢;omega
 | _,.cons (c:=c) (ls:=ls) hc t,0,x,h,o=>by
  simp at h;subst h;simp [isOpen] at o
 | _,.cons (c:=c) (ls:=ls) hc t,i+1,x,h,o=>by
  have:=fj.open_last t i x (by simpa using h) o;simp;omega
theorem DR {out x:Gn} (hx:x≠[]) (h:isOpen x=false):BH (out++x):=by
 right
 unfold isOpen at h ⊢;rw [xr _ hx];exact h
theorem uA {o a b:List Gn} (Lo:fj o) (La:fj a) (Lb':fj b):∀ (l:List (Nat×Nat×Nat)) (i0 j k:Nat) (out:Gn) (n p:Nat),tG o a b l i0 j k->(BH out∨(o.length<=i0/\a.length<=j/\b.length<=k)) ->
  pmerge o a b (l++[(o.length,a.length,b.length)]) i0 j k (out,n,p)=mergedFrom (nG o a b l i0 j k) out n p
 | [],i0,j,k,out,n,p,_,h=>by
  show addLines (someOf o o.length 1) (addPlace (someOf o i0 (o.length-i0)) (someOf a j (a.length-j)) (someOf b k (b.length-k)) (out,n,p))=mergedFrom [⟨o.drop i0,a.drop j,b.drop k,none⟩] out n p;rw [oz,oz,oz,oX]
  ·show _=((addPlace (o.drop i0) (a.drop j) (b.drop k) (out,n,p)).1++[],(addPlace (o.drop i0) (a.drop j) (b.drop k) (out,n,p)).2.1,(addPlace (o.drop i0) (a.drop j) (b.drop k) (out,n,p)).2.2)
   unfold addLines;have:someOf o o.length 1=[]:=by unfold someOf;rw [Ik];rfl
   rw [this];rfl
  ·rcases h with h | ⟨h1,h2,h3⟩
   ·exact .inl h
   ·right
    rw [Hn h1,Hn h2]
 | (i,x,y)::l,i0,j,k,out,n,p,⟨s1,s2,s3,s4,s5,s6,s7,s8,s9⟩,h=>by
  have hg:BH out:=by
   rcases h with h | h
   ·exact h
   ·omega
  show pmerge o a b (l++_) (i+1) (x+1) (y+1) (addLines (someOf o i 1) (addPlace (someOf o i0 (i-i0)) (someOf a j (x-j)) (someOf b k (y-k)) (out,n,p)))=mergedFrom (⟨someOf o i0 (i-i0),someOf a j (x-j),someOf b k (y-k),o[i]?⟩::nG o a b l (i+1) (x+1) (y+1)) out n p;rw [oX (.inl hg)];generalize hq:addPlace (someOf o i0 (i-i0)) (someOf a j (x-j)) (someOf b k (y-k)) (out,n,p)=q;obtain ⟨q1,q2,q3⟩:=q;have e1:addLines (someOf o i 1) (q1,q2,q3)=(q1++o[i],q2,q3):=by
   unfold addLines;rw [yg o i s2];simp [joinedL]
  have e2:(o[i]?).getD []=o[i]:=by rw [Gk s2];rfl
  rw [e1,e2];refine uA Lo La Lb' l _ _ _ _ _ _ s9 ?_;have hi:o[i]?=some o[i]:=Gk s2;cases c:isOpen o[i] with
  | false=>exact .inl (DR (Lo.ne (List.getElem_mem s2)) c)
  | true =>
   right
   have z1:=Lo.open_last i _ hi c;have z2:=La.open_last x _ (s7.symm.trans hi) c;have z3:=Lb'.open_last y _ (s8.symm.trans hi) c;omega
theorem Bm (o a b:Gn):pmerge (linesOf o) (linesOf a) (linesOf b) (stillOf (linesOf o) (linesOf a) (linesOf b)++[((linesOf o).length,(linesOf a).length,(linesOf b).length)]) 0 0 0 ([],0,0)=merged o a b:=by
 rw [uA (gp o) (gp a) (gp b) _ 0 0 0 [] 0 0 (rS _ _ _) (.inl (.inl rfl))];unfold merged;rw [AY]
def byPatch (t0 z:Gn):Option Gn:=match readPatch (linesOf t0) z with
 | .error _=>none
 | .ok l=>if isText (joinedL (patched (linesOf t0) 0 l))=true/\patchOf t0 (joinedL (patched (linesOf t0) 0 l))=z then some (joinedL (patched (linesOf t0) 0 l)) else none
def keptText (h:Hl) (x:Nat) (z:Gn):Option Gn:=(match parentOf x with
 | none=>some z
 | some q=>byPatch (h.text q) z).filter isText
def oneVersion (b:Gn) (p size:Nat) (h:Hl):Except Fault (IE×Nat×Nat) :=
 if b.length<p+4 then .error ⟨1,b.length⟩
 else if ofLe (part b p 4)≠0xFFFFFFFF/\h.length<=ofLe (part b p 4) then .error ⟨3,p⟩
 else if b.length<p+8 then .error ⟨1,b.length⟩
 else if ofLe (part b (p+4) 4)≠0xFFFFFFFF/\(h.length<=ofLe (part b (p+4) 4)∨ofLe (part b p 4)=0xFFFFFFFF∨ofLe (part b p 4)=ofLe (part b (p+4) 4)) then .error ⟨3,p+4⟩
 else if b.length<p+12 then .error ⟨1,b.length⟩
 else if KEPT<size+ofLe (part b (p+8) 4) then .error ⟨6,p+8⟩
 else if b.length<p+12+ofLe (part b (p+8) 4) then .error ⟨1,b.length⟩
 else match keptText h (ofLe (part b p 4)) (part b (p+12) (ofLe (part b (p+8) 4))) with
  | none => .error ⟨5,p+8⟩
  | some t => .ok (⟨parentOf (ofLe (part b p 4)),parentOf (ofLe (part b (p+4) 4)),t⟩,p+12+ofLe (part b (p+8) 4),ofLe (part b (p+8) 4))
theorem oR (b:Gn) (n p size:Nat) (h:Hl):readVersions b (n+1) p size h=match oneVersion b p size h with
  | .error e => .error e
  | .ok x=>readVersions b n x.2.1 (size+x.2.2) (h++[x.1]):=by
 unfold oneVersion;rw [readVersions];simp only;split
 ·rfl
 split
 ·rfl
 split
 ·rfl
 split
 ·rfl
 split
 ·rfl
 split
 ·rfl
 split
 ·rfl
 show (match (Kg isText _) with
  | none=>_
  | some t=>_)=_
 unfold keptText;cases e:parentOf (ofLe (part b p 4)) with
 | none =>
  simp only [e];cases Kg isText (some (part b (p+12) (ofLe (part b (p+8) 4)))) <;> rfl
 | some q =>
  simp only [e];unfold byPatch;cases readPatch (linesOf (K7 h q)) (part b (p+12) (ofLe (part b (p+8) 4))) with
  | error _=>rfl
  | ok l =>
   simp only;generalize Kg isText _=r;cases r <;> rfl
def WF (h:Hl):Prop:=∀ (i:Nat) (v:IE),h[i]?=some v->(∀ q,v.first=some q->q<i)/\(∀ q,v.second=some q->q<i)/\isText v.text=true
theorem WF.nil:WF []:=fun i v e=>by simp at e
theorem WF.snoc {h:Hl} {v:IE} (W:WF h) (h1:∀ q,v.first=some q->q<h.length) (h2:∀ q,v.second=some q->q<h.length) (h3:isText v.text=true):WF (h++[v]):=by
 intro i u e;by_cases hi:i<h.length
 ·rw [G6 hi] at e
  exact W i u e
 ·have hl:=(Gj.mp e).1
  have:i=h.length:=by simp at hl;omega
  subst this;simp at e;subst e;exact ⟨h1,h2,h3⟩
theorem rQ {h:Hl} {v:IE} {q:Nat} (hq:q<h.length):K7 (h++[v]) q=h.text q:=by
 unfold K7;rw [G6 hq]
theorem pL {h:Hl} {v u:IE} (hu:∀ q,u.first=some q->q<h.length):Ku (h++[v]) u=h.kept u:=by
 unfold Ku;cases e:u.first with
 | none=>rfl
 | some q =>
  simp only;rw [rQ (hu q e)]
theorem o9 {h:Hl} {v:IE} (W:WF h) (hv:∀ q,v.first=some q->q<h.length):Hl.size (h++[v])=h.size+(h.kept v).length:=by
 unfold Hl.size;rw [Gr,List.sum_append];have e1:h.map (fun (u:IE)=>(Ku (h++[v]) u).length)=h.map fun (u:IE)=>(h.kept u).length:=by
  apply ID;intro u hu;obtain ⟨i,hi⟩:=Jl hu;have hl:=(Gj.mp hi).1;rw [pL];intro q hq;have:=(W i u hi).1 q hq;omega
 rw [e1];simp [pL hv]
theorem kW {x q:Nat} (h:parentOf x=some q):x≠0xFFFFFFFF/\q=x:=by
 unfold parentOf at h;split at h
 ·cases h
 ·cases h
  exact ⟨by assumption,rfl⟩
theorem om {b:Gn} {p size:Nat} {h:Hl} {x:IE×Nat×Nat} (e:oneVersion b p size h = .ok x):(∀ q,x.1.first=some q->q<h.length)/\(∀ q,x.1.second=some q->q<h.length)/\isText x.1.text=true/\x.2.2=(h.kept x.1).length /\
  h.kept x.1=part b (p+12) x.2.2/\size+x.2.2<=KEPT/\p+12+x.2.2=x.2.1/\x.2.1<=b.length:=by
 unfold oneVersion at e;split at e
 ·cases e
 split at e
 ·cases e
 rename_i g2;split at e
 ·cases e
 split at e
 ·cases e
 rename_i g4;split at e
 ·cases e
 split at e
 ·cases e
 split at e
 ·cases e
 rename_i g7;split at e
 ·cases e
 rename_i t ht;injection e with e
 subst e;have pl:=gF b (p+12) (ofLe (part b (p+8) 4)) (by omega);unfold keptText at ht;have ht2:isText t=true:=by
  have:=Option.mem_filter_iff.mp (show t∈Kg isText _ from ht);exact this.2
 have ht1:=(Option.mem_filter_iff.mp (show t∈Kg isText _ from ht)).1;have kz:Ku h ⟨parentOf (ofLe (part b p 4)),parentOf (ofLe (part b (p+4) 4)),t⟩=part b (p+12) (ofLe (part b (p+8) 4)):=by
  unfold Ku;simp only;cases eq:parentOf (ofLe (part b p 4)) with
  | none =>
   rw [eq] at ht1;simp at ht1;simp only;exact ht1.symm
  | some q =>
   rw [eq] at ht1;simp only at ht1 ⊢;unfold byPatch at ht1;split at ht1
   ·cases ht1
   ·split at ht1
    ·rename_i l hl c
     have:t=_:=(Hd (Option.mem_def.mp ht1)).symm;rw [this];exact c.2
    ·cases ht1
 refine ⟨fun q hq=>?_,fun q hq=>?_,ht2,?_,kz,by show size+ofLe (part b (p+8) 4)<=_;omega,rfl,by show p+12+ofLe (part b (p+8) 4)<=_;omega⟩
 ·obtain ⟨a1,a2⟩:=kW hq
  subst a2;omega
 ·obtain ⟨a1,a2⟩:=kW hq
  subst a2;omega
 ·rw [kz,pl]
theorem jP (ls:List Gn) (i x:Nat) (h:i<=x):(joinedL (ls.drop i)).length=(joinedL (someOf ls i (x-i))).length+(joinedL (ls.drop x)).length:=by
 rw [← Gi,← f7];unfold someOf;conv=>lhs;rw [← JE (x-i) (ls.drop i)]
 rw [IG,show i+(x-i)=x by omega]
theorem mT (ls:List Gn) (i d:Nat):(joinedL (ls.drop i)).length=(joinedL (someOf ls i d)).length+(joinedL (ls.drop (i+d))).length:=by
 have:=jP ls i (i+d) (by omega);rwa [show i+d-i=d by omega] at this
theorem pR (p:Ju):(encP p).length=12+p.bytes.length:=by
 unfold encP;simp only [Gi,gg];omega
theorem Av:∀ l:List Ju,12*l.length<=(l.flatMap encP).length
 | []=>G5 _
 | p::l=>by
  have:=Av l;rw [I0,Gi,pR,GQ];omega
theorem pd {a:List Gn}:∀ {l:List Ju} {i:Nat},gq a i l->(joinedL (patched a i l)).length<=(joinedL (a.drop i)).length+(l.flatMap encP).length
 | [],i,_=>by
  show (joinedL (a.drop i)).length<=_;omega
 | p::l,i,⟨h1,h2,_,_,_,_,_,h3⟩=>by
  have ih:=pd h3;show (joinedL (someOf a i (p.from_-i)++(linesOf p.bytes++patched a (p.from_+p.dropped) l))).length<=_;rw [f7,f7,fK,Gi,Gi,I0,Gi,pR];have e1:=jP a i p.from_ h1;have e2:=mT a p.from_ p.dropped;omega
theorem xM {a:List Gn}:∀ {l:List Ju} {i:Nat} {k:Int},gq a i l->((backOf a k l).flatMap encP).length<=12*l.length+(joinedL (a.drop i)).length
 | [],i,k,_=>G5 _
 | p::l,i,k,⟨h1,h2,_,_,_,_,_,h3⟩=>by
  have ih:=xM (k:=k+(linesOf p.bytes).length-p.dropped) h3;show (((⟨(k+p.from_).toNat,(linesOf p.bytes).length,joinedL (someOf a p.from_ p.dropped)⟩:Ju)::backOf a (k+(linesOf p.bytes).length-p.dropped) l).flatMap encP).length<=_;rw [I0,Gi,pR,GQ];have e1:=jP a i p.from_ h1;have e2:=mT a p.from_ p.dropped;show 12+(joinedL (someOf a p.from_ p.dropped)).length+_<=_;omega
theorem tE {a:List Gn}:∀ {l:List Ju} {k:Int},(backOf a k l).length=l.length
 | [],_=>rfl
 | p::l,k=>by
  show (backOf a _ l).length+1=l.length+1;rw [tE]
theorem sy (b:List Gn):∀ (l:List (Nat×Nat)) (i j:Nat),Up l i j->((((runsP l i j).map (linesRun b)).map toPiece).flatMap encP).length<=12*l.length+(joinedL (b.drop j)).length
 | [],_,_,_=>G5 _
 | (c1,c2)::l,i,j,⟨u1,u2,u3⟩=>by
  have ih:=sy b l (c1+1) (c2+1) u3;have e:runsP ((c1,c2)::l) i j=(if i<c1∨j<c2 then [⟨i,c1-i,j,c2-j⟩] else [])++runsP l (c1+1) (c2+1):=rfl
  rw [e,Gr,Gr,Jq,Gi,GQ];have e1:=jP b j c2 u2;have e2:=mT b c2 1;split
  ·show ([toPiece (linesRun b ⟨i,c1-i,j,c2-j⟩)].flatMap encP).length+_<=_
   rw [I0,Gi,pR];show 12+(joinedL (someOf b j (c2-j))).length+0+_<=_;omega
  ·show 0+_<=_
   omega
theorem uF {a b:Gn} (ha:isText a=true) (hb:isText b=true):(patchOf a b).length<=200000:=by
 unfold patchOf;rw [lx,gk];unfold between;rw [← nh];have h:=sy (linesOf b) (pairsOf (linesOf a) (linesOf b)++[((linesOf a).length,(linesOf b).length)]) 0 0 (jr _ _);rw [Ip,fK] at h;have hl:(pairsOf (linesOf a) (linesOf b)).length<=(linesOf a).length:=by
  have:=iL (wayP (linesOf a) (linesOf b)) 0 0;rw [i8] at this;exact this
 unfold isText at ha hb;rw [G8] at ha hb;have a1:(linesOf a).length<=2048:=Gd ha.2;have b1:b.length<=65536:=Gd hb.1;rw [Gi] at h;rw [Gi,Gi,gg];have e4:(ascii "SWV1").length=4:=by decide
 simp only [GQ,Ja] at h;omega
inductive Anc (h:Hl) (v:Nat):Nat->Prop where
 | refl:Anc h v v
 | par {x p:Nat}:Anc h v x->p∈h.parents x->Anc h v p
theorem l8 {h:Hl} (W:WF h) {x p:Nat} (hp:p∈h.parents x):p<x:=by
 unfold Hl.parents at hp;cases e:h[x]? with
 | none=>rw [e] at hp;simp at hp
 | some v =>
  rw [e] at hp;simp only [HS,Option.mem_toList] at hp;rcases hp with hp | hp
  ·exact (W x v e).1 p hp
  ·exact (W x v e).2.1 p hp
theorem Anc.le {h:Hl} (W:WF h) {v x:Nat} (a:Anc h v x):x<=v:=by
 induction a with
 | refl=>exact Go _
 | par _ hp ih=>have:=l8 W hp;omega
def rH (h:Hl) (m:List Nat) (x:Nat):List Nat:=if m.contains x=true then (h.parents x).filter (fun (p:Nat) => !m.contains p)++m else m
theorem tQ (h:Hl) (v:Nat):ancestors h v=((IR (v+1)).reverse).foldl (rH h) [v]:=rfl
structure jf (h:Hl) (v k:Nat) (m:List Nat):Prop where
 self:v∈m
 sub:∀ x∈m,Anc h v x
 closed:∀ x∈m,k<=x->∀ p∈h.parents x,p∈m
theorem Eg {h:Hl} (W:WF h) {v k:Nat} {m:List Nat} (a:jf h v (k+1) m):jf h v k (rH h m k):=by
 unfold rH;split
 ·rename_i hk
  have hk:k∈m:=by simpa using hk
  refine ⟨HY _ a.self,fun x hx=>?_,fun x hx hkx p hp=>?_⟩
  ·rcases HS.mp hx with hx | hx
   ·exact (a.sub k hk).par (Kx.mp hx).1
   ·exact a.sub x hx
  ·rcases HS.mp hx with hx | hx
   ·have:=l8 W (Kx.mp hx).1
    omega
   ·by_cases e:x=k
    ·subst e
     by_cases hm:p∈m
     ·exact HY _ hm
     ·exact Lw _ (Kx.mpr ⟨hp,by simpa using hm⟩)
    ·exact HY _ (a.closed x hx (by omega) p hp)
 ·rename_i hk
  have hk:k∉m:=by simpa using hk
  refine ⟨a.self,a.sub,fun x hx hkx p hp=>a.closed x hx ?_ p hp⟩
  by_cases e:x=k
  ·subst e;exact absurd hx hk
  ·omega
theorem xO {h:Hl} (W:WF h) {v:Nat}:∀ (k:Nat) {m:List Nat},jf h v k m->jf h v 0 (((IR k).reverse).foldl (rH h) m)
 | 0,m,a=>a
 | k+1,m,a=>by
  rw [Kw,List.reverse_append,List.reverse_singleton,List.singleton_append,List.foldl_cons];exact xO W k (Eg W a)
theorem pZ {h:Hl} (W:WF h) (u v:Nat):h.ancestor u v=true↔Anc h v u:=by
 have ok:jf h v 0 (ancestors h v):=by
  rw [tQ];refine xO W (v+1) ⟨G7.mpr rfl,fun x hx=>?_,fun x hx hk=>?_⟩
  ·rw [G7.mp hx];exact .refl
  ·rw [G7.mp hx] at hk;omega
 unfold Hl.ancestor;rw [List.contains_iff_mem];constructor
 ·exact ok.sub u
 ·intro a
  induction a with
  | refl=>exact ok.self
  | par _ hp ih=>exact ok.closed _ ih (G5 _) _ hp
theorem uQ (q:Nat->Bool):∀ n:Nat,(match ((IR n).reverse).find? q with
  | some x=>x<n/\q x=true/\∀ y,x<y->y<n->q y=false
  | none=>∀ y,y<n->q y=false)
 | 0=>fun y hy=>by omega
 | n+1=>by
  rw [Kw,List.reverse_append,List.reverse_singleton,List.singleton_append,JB];cases hq:q n with
  | true=>exact ⟨by omega,hq,fun y h1 h2=>by omega⟩
  | false =>
   have ih:=uQ q n;simp only;cases e:((IR n).reverse).find? q with
   | none =>
    rw [e] at ih;intro y hy;by_cases h:y=n
    ·rw [h];exact hq
    ·exact ih y (by omega)
   | some x =>
    rw [e] at ih;refine ⟨by have:=ih.1;omega,ih.2.1,fun y h1 h2=>?_⟩
    by_cases h:y=n
    ·rw [h];exact hq
    ·exact ih.2.2 y h1 (by omega)
theorem ku:∀ (w:List Step) (i:Nat),(keptOf w i).length=fV w
 | [],_=>rfl
 | .keep::w,i=>by
  show (keptOf w (i+1)).length+1=_;rw [ku w (i+1)];simp [fV]
 | .drop::w,i=>by
  show (keptOf w (i+1)).length=_;rw [ku w (i+1)];simp [fV]
 | .take::w,i=>by
  show (keptOf w i).length+1=_;rw [ku w i];simp [fV]
theorem jO:∀ (w:List Step) (i j k x:Nat),(keptOf w i)[k]?=some (some x)↔(x,j+k)∈pairsFrom w i j
 | [],i,j,k,x=>by simp [keptOf,pairsFrom]
 | .keep::w,i,j,k,x=>by
  show (some i::keptOf w (i+1))[k]?=some (some x)↔(x,j+k)∈(i,j)::pairsFrom w (i+1) (j+1);cases k with
  | zero =>
   constructor
   ·intro h
    simp at h;subst h;exact Hf
   ·intro h
    rcases Gu.mp h with h | h
    ·injection h with h1 h2
     subst h1;rfl
    ·exfalso
     have:=pairsFrom_ge w (i+1) (j+1) _ h;simp only at this;omega
  | succ k =>
   rw [Iw,jO w (i+1) (j+1) k x,Gu,show j+1+k=j+(k+1) by omega];constructor
   ·exact fun h => .inr h
   ·rintro (h | h)
    ·injection h with _ h2
     omega
    ·exact h
 | .drop::w,i,j,k,x=>jO w (i+1) j k x
 | .take::w,i,j,k,x=>by
  show (none::keptOf w i)[k]?=some (some x)↔(x,j+k)∈pairsFrom w i (j+1);cases k with
  | zero =>
   constructor
   ·intro h;simp at h
   ·intro h
    exfalso;have:=pairsFrom_ge w i (j+1) _ h;simp only at this;omega
  | succ k =>
   rw [Iw,jO w i (j+1) k x,show j+1+k=j+(k+1) by omega]
where
 pairsFrom_ge:∀ (w:List Step) (i j:Nat) (p:Nat×Nat),p∈pairsFrom w i j->i<=p.1/\j<=p.2
 | [],i,j,p,h=>by simp [pairsFrom] at h
 | .keep::w,i,j,p,h=>by
  rcases Gu.mp (show p∈(i,j)::pairsFrom w (i+1) (j+1) from h) with h | h
  ·subst h;exact ⟨Go _,Go _⟩
  ·have:=pairsFrom_ge w (i+1) (j+1) p h;omega
 | .drop::w,i,j,p,h=>by have:=pairsFrom_ge w (i+1) j p h;omega
 | .take::w,i,j,p,h=>by have:=pairsFrom_ge w i (j+1) p h;omega
def whF (h:Hl) (n:Nat):List (List Nat):=(h.take n).zipIdx.foldl (fun (w:List (List Nat)) (q:IE×Nat)=>w++[whenceOne h w q.2 q.1]) []
theorem rN (h:Hl) (v:Nat):h.whence v=((whF h (v+1))[v]?).getD []:=rfl
theorem rO {h:Hl} {n:Nat} {x:IE} (hx:h[n]?=some x):whF h (n+1)=whF h n++[whenceOne h (whF h n) n x]:=by
 have hn:=(Gj.mp hx).1;have e:h.take (n+1)=h.take n++[x]:=by rw [HP,hx];rfl
 have hl:(h.take n).length=n:=by rw [HF];omega
 unfold whF;rw [e,List.zipIdx_append,List.foldl_append,hl];simp
theorem qV {h:Hl}:∀ {n:Nat},n<=h.length->(whF h n).length=n
 | 0,_=>rfl
 | n+1,hn=>by
  have hx:h[n]?=some h[n]:=Gk (by omega);rw [rO hx,Gi,qV (by omega)];rfl
theorem y9 {h:Hl}:∀ {n q:Nat},n<=h.length->q<n->(whF h n)[q]?=some (h.whence q)
 | 0,q,_,hq=>by omega
 | n+1,q,hn,hq=>by
  have hx:h[n]?=some h[n]:=Gk (by omega);by_cases e:q=n
  ·subst e
   have hl:=qV hn;rw [rN,Gk (by omega)];rfl
  ·rw [rO hx,G6 (by rw [qV (by omega)];omega)]
   exact y9 (by omega) (by omega)
def whBy (h:Hl) (l:List Gn) (p:Option Nat):List (Option Nat):=match p with
 | some q=>(keptOf (way (linesOf (h.text q)) l) 0).map fun (i:Option Nat)=>i.bind fun (i:Nat)=>(h.whence q)[i]?
 | none=>l.map fun _=>none
theorem iK {h:Hl} (W:WF h) {v:Nat} {x:IE} (hx:h[v]?=some x) :
  h.whence v=HC (fun (a b:Option Nat)=>(a.or b).getD v) (whBy h (linesOf x.text) x.first) (whBy h (linesOf x.text) x.second):=by
 have hv:=(Gj.mp hx).1;have hl:=qV (h:=h) (n:=v) (by omega);rw [rN,rO hx,Hg (by omega),hl,Jz];show whenceOne h (whF h v) v x=_;unfold whenceOne;obtain ⟨w1,w2,_⟩:=W v x hx;have by_:∀ p:Option Nat,(∀ q,p=some q->q<v)->(match p with
   | some q=>(keptOf (way (linesOf (h.text q)) (linesOf x.text)) 0).map fun (i:Option Nat)=>i.bind fun (i:Nat)=>(((whF h v)[q]?).getD [])[i]?
   | none=>(linesOf x.text).map fun _=>none)=whBy h (linesOf x.text) p:=by
  intro p hp;cases p with
  | none=>rfl
  | some q =>
   unfold whBy;simp only;rw [y9 (by omega) (hp q rfl)];rfl
 rw [← by_ x.first w1,← by_ x.second w2];rfl
theorem jv (h:Hl) (l:List Gn):∀ p:Option Nat,(whBy h l p).length=l.length
 | none=>by simp [whBy]
 | some q=>by
  unfold whBy;simp only;rw [Ge,ku,oy,pT]
theorem ow {h:Hl} (W:WF h) {v:Nat} {x:IE} (hx:h[v]?=some x):(h.whence v).length=(linesOf x.text).length:=by
 rw [iK W hx,JU,jv,jv,Li]
def FS (h:Hl):Prop:=∀ (i:Nat) (v:IE),h[i]?=some v->v.first=none->v.second=none
theorem oQ {h:Hl} {v:IE} {l:List Gn} {p:Option Nat} (hp:∀ q,p=some q->q<h.length/\(h++[v]).whence q=h.whence q):whBy (h++[v]) l p=whBy h l p:=by
 cases p with
 | none=>rfl
 | some q =>
  obtain ⟨h1,h2⟩:=hp q rfl;unfold whBy;simp only;rw [rQ h1,h2]
theorem xT {h:Hl} {v:IE} (W:WF h) (W':WF (h++[v])):∀ (n i:Nat),i<=n->i<h.length->(h++[v]).whence i=h.whence i:=by
 intro n;induction n with
 | zero =>
  intro i hi hl;have hi:i=0:=by omega
  subst hi;have hx:h[0]?=some h[0]:=Gk hl;have hx':(h++[v])[0]?=some h[0]:=by rw [G6 hl];exact hx
  rw [iK W hx,iK W' hx',oQ,oQ]
  ·intro q hq
   have:=(W 0 _ hx).2.1 q hq;omega
  ·intro q hq
   have:=(W 0 _ hx).1 q hq;omega
 | succ n ih =>
  intro i hi hl;have hx:h[i]?=some h[i]:=Gk hl;have hx':(h++[v])[i]?=some h[i]:=by rw [G6 hl];exact hx
  rw [iK W hx,iK W' hx',oQ,oQ]
  ·intro q hq
   have:=(W i _ hx).2.1 q hq;exact ⟨by omega,ih q (by omega) (by omega)⟩
  ·intro q hq
   have:=(W i _ hx).1 q hq;exact ⟨by omega,ih q (by omega) (by omega)⟩
structure gz (h:Hl):Prop where
 wf:WF h
 fs:FS h
 size:h.size<=KEPT
 len:h.length<=64
theorem gz.nil:gz []:=⟨WF.nil,fun i v e=>by simp at e,by decide,by decide⟩
theorem FS.snoc {h:Hl} {v:IE} (F:FS h) (hv:v.first=none->v.second=none):FS (h++[v]):=by
 intro i u e;by_cases hi:i<h.length
 ·rw [G6 hi] at e
  exact F i u e
 ·have hl:=(Gj.mp e).1
  have:i=h.length:=by simp at hl;omega
  subst this;simp at e;subst e;exact hv
theorem gz.snoc {h:Hl} {v:IE} (G:gz h) (h1:∀ q,v.first=some q->q<h.length) (h2:∀ q,v.second=some q->q<h.length) (h3:isText v.text=true) (h4:v.first=none->v.second=none) (h5:h.size+(h.kept v).length<=KEPT) (h6:h.length<64):gz (h++[v]) :=
 ⟨G.wf.snoc h1 h2 h3,G.fs.snoc h4,by rw [o9 G.wf h1];exact h5,by rw [Gi];exact h6⟩
theorem tM {b:Gn} {p size:Nat} {h:Hl} {x:IE×Nat×Nat} (e:oneVersion b p size h = .ok x):x.1.first=none->x.1.second=none:=by
 unfold oneVersion at e;split at e
 ·cases e
 split at e
 ·cases e
 split at e
 ·cases e
 split at e
 ·cases e
 rename_i g4;split at e
 ·cases e
 split at e
 ·cases e
 split at e
 ·cases e
 split at e
 ·cases e
 injection e with e
 subst e;intro hn;have hn:parentOf (ofLe (part b p 4))=none:=hn;show parentOf (ofLe (part b (p+4) 4))=none;unfold parentOf at hn ⊢;split at hn
 ·rename_i hx
  rw [Ga];by_cases hy:ofLe (part b (p+4) 4)=0xFFFFFFFF
  ·exact hy
  ·exact absurd ⟨hy,.inr (.inl hx)⟩ g4
 ·cases hn
theorem oh (b:Gn):∀ (n p:Nat) (h0 h:Hl) (q:Nat),gz h0->h0.length+n<=64->readVersions b n p h0.size h0 = .ok (h,q)->gz h
 | 0,p,h0,h,q,G,_,e=>by
  have e:(Except.ok (h0,p):Except Fault (Hl×Nat)) = .ok (h,q):=e;injection e with e
  injection e with e _
  rw [← e];exact G
 | n+1,p,h0,h,q,G,hl,e=>by
  rw [oR] at e;cases ho:oneVersion b p h0.size h0 with
  | error f=>rw [ho] at e;cases e
  | ok x =>
   rw [ho] at e;obtain ⟨o1,o2,o3,o4,o5,o6,o7,o8⟩:=om ho;have G':=G.snoc o1 o2 o3 (tM ho) (by rw [← o4];exact o6) (by omega);refine oh b n x.2.1 (h0++[x.1]) h q G' (by rw [Gi];show h0.length+1+n<=64;omega) ?_;rw [o9 G.wf o1,← o4];exact e
theorem qt {b:Gn} {h:Hl} (e:readHistory b = .ok h):gz h:=by
 unfold readHistory at e;split at e
 ·cases e
 ·split at e
  ·cases e
  ·simp only at e
   split at e
   ·cases e
   ·rename_i hv
    split at e
    ·cases e
    ·rename_i x hx
     split at e
     ·cases e
     ·injection e with e
      subst e;exact oh b _ 8 [] x.1 x.2 gz.nil (by show 0+_<=64;unfold K5 at hv;omega) hx
theorem jf.start (h:Hl) (v:Nat):jf h v (v+1) [v]:=⟨G7.mpr rfl,fun x hx=>by rw [G7.mp hx];exact .refl,fun x hx hk=>by rw [G7.mp hx] at hk;omega⟩
theorem jf.skip {h:Hl} {v k:Nat} {m:List Nat} (a:jf h v (k+1) m) (hk:k∉m):jf h v k m:=by
 refine ⟨a.self,a.sub,fun x hx hkx p hp=>a.closed x hx ?_ p hp⟩
 by_cases e:x=k
 ·subst e;exact absurd hx hk
 ·omega
theorem jf.add {h:Hl} (W:WF h) {v k:Nat} {m m':List Nat} (a:jf h v (k+1) m) (hk:k∈m) (h1:∀ x∈m,x∈m') (h2:∀ x∈m',x∈m∨x∈h.parents k) (h3:∀ p∈h.parents k,p∈m'):jf h v k m':=by
 refine ⟨h1 _ a.self,fun x hx=>?_,fun x hx hkx p hp=>?_⟩
 ·rcases h2 x hx with hx | hx
  ·exact a.sub x hx
  ·exact (a.sub k hk).par hx
 ·rcases h2 x hx with hx | hx
  ·by_cases e:x=k
   ·subst e;exact h3 p hp
   ·exact h1 _ (a.closed x hx (by omega) p hp)
  ·have:=l8 W hx
   omega
theorem jf.iff {h:Hl} {v:Nat} {m:List Nat} (a:jf h v 0 m) (u:Nat):u∈m↔Anc h v u:=by
 constructor
 ·exact a.sub u
 ·intro x
  induction x with
  | refl=>exact a.self
  | par _ hp ih=>exact a.closed _ ih (G5 _) _ hp
theorem mj {h:Hl} (W:WF h) {u v:Nat} (hu:u<h.length) {m:List Nat} (hm:∀ x,x∈m↔Anc h u x/\Anc h v x):(m=[]->h.base u v=none)/\(∀ x,x∈m->(∀ y∈m,y<=x)->h.base u v=some x):=by
 have fl:=uQ (fun x=>h.ancestor x u && h.ancestor x v) h.length
 have mem:∀ x,(h.ancestor x u && h.ancestor x v)=true↔x∈m:=fun x=>by
  rw [G8,pZ W,pZ W,hm]
 constructor
 ·intro e
  unfold Hl.base;cases hf:((IR h.length).reverse).find? fun (x:Nat)=>h.ancestor x u && h.ancestor x v with
  | none=>rfl
  | some x =>
   rw [hf] at fl;have:=(mem x).mp fl.2.1;rw [e] at this;simp at this
 ·intro x hx hy
  unfold Hl.base;have xl:x<h.length:=by
   have:=((hm x).mp hx).1.le W;omega
  cases hf:((IR h.length).reverse).find? fun (x:Nat)=>h.ancestor x u && h.ancestor x v with
  | none =>
   rw [hf] at fl;have:=(mem x).mpr hx;rw [fl x xl] at this;cases this
  | some z =>
   rw [hf] at fl;have hz:=(mem z).mp fl.2.1;have h1:=hy z hz;by_cases e:z=x
   ·rw [e]
   ·have h2:=fl.2.2 x (by omega) xl
    have h3:=(mem x).mpr hx;rw [h2] at h3;cases h3
def patchedG {α:Type} (z:List α):Nat->List (Nat×Nat×List α)->List α
 | i,[]=>z.drop i
 | i,p::l=>(z.drop i).take (p.1-i)++(p.2.2++patchedG z (p.1+p.2.1) l)
def jN {α:Type} (none':α) (r:Run):Nat×Nat×List α:=(r.from_,r.dropped,Gq r.taken none')
def sZ {α:Type} (none':α) (z:List α):Option Nat->α
 | none=>none'
 | some i=>(z[i]?).getD none'
theorem wu {α:Type} {z:List α} {s i:Nat} (h:s<=i) (hi:i<z.length) (d:α):(z.drop s).take (i+1-s)=(z.drop s).take (i-s)++[(z[i]?).getD d]:=by
 have e:i+1-s=(i-s)+1:=by omega
 rw [e,HP,J2,show s+(i-s)=i by omega,Gk hi];rfl
theorem iI {α:Type} (d:α) (z:List α):∀ (w:List Step) (i j s:Nat) (r:Option Run),i+countA w=z.length->(r=none->s<=i)->(∀ x,r=some x->s<=x.from_/\x.from_+x.dropped=i) ->
  patchedG z s ((runsFrom w i j r).map (jN d))=(match r with
   | none=>(z.drop s).take (i-s)++(keptOf w i).map (sZ d z)
   | some x=>(z.drop s).take (x.from_-s)++(Gq x.taken d++(keptOf w i).map (sZ d z)))
 | [],i,j,s,none,hc,h1,_=>by
  have hc:i=z.length:=hc;show z.drop s=_++[];rw [Iq,Im (by rw [Hv];omega)]
 | [],i,j,s,some x,hc,_,h2=>by
  have hc:i=z.length:=hc;obtain ⟨a1,a2⟩:=h2 x rfl;show (z.drop s).take (x.from_-s)++(Gq x.taken d++z.drop (x.from_+x.dropped))=_;rw [show z.drop (x.from_+x.dropped)=[] from Hn (by omega)];rfl
 | .keep::w,i,j,s,none,hc,h1,_=>by
  have hc':i+1+countA w=z.length:=by rw [← hc];simp only [countA];omega
  have ih:=iI d z w (i+1) (j+1) s none hc' (fun _=>by have:=h1 rfl;omega) (fun x e=>by cases e)
  show patchedG z s ((runsFrom w (i+1) (j+1) none).map (jN d))=_;rw [ih];simp only;rw [wu (h1 rfl) (by omega) d];show _=_++(sZ d z (some i)::(keptOf w (i+1)).map (sZ d z));rw [Hx];rfl
 | .keep::w,i,j,s,some x,hc,_,h2=>by
  have hc':i+1+countA w=z.length:=by rw [← hc];simp only [countA];omega
  obtain ⟨a1,a2⟩:=h2 x rfl;have ih:=iI d z w (i+1) (j+1) i none hc' (fun _=>by omega) (fun x e=>by cases e)
  show (z.drop s).take (x.from_-s)++(Gq x.taken d++patchedG z (x.from_+x.dropped) ((runsFrom w (i+1) (j+1) none).map (jN d)))=_;rw [a2,ih];simp only;rw [wu (Go i) (by omega) d,Jz,List.take_zero];rfl
 | .drop::w,i,j,s,none,hc,h1,_=>by
  have hc':i+1+countA w=z.length:=by rw [← hc];simp only [countA];omega
  exact iI d z w (i+1) j s (some ⟨i,0+1,j,0⟩) hc' (fun e=>by cases e) (fun x e=>by cases e;exact ⟨h1 rfl,rfl⟩)
 | .drop::w,i,j,s,some x,hc,_,h2=>by
  have hc':i+1+countA w=z.length:=by rw [← hc];simp only [countA];omega
  obtain ⟨a1,a2⟩:=h2 x rfl;exact iI d z w (i+1) j s (some { x with dropped:=x.dropped+1 }) hc' (fun e=>by cases e) (fun y e=>by cases e;exact ⟨a1,by show x.from_+(x.dropped+1)=_;omega⟩)
 | .take::w,i,j,s,none,hc,h1,_=>by
  have hc':i+countA w=z.length:=by rw [← hc];simp only [countA]
  exact iI d z w i (j+1) s (some ⟨i,0,j,0+1⟩) hc' (fun e=>by cases e) (fun x e=>by cases e;exact ⟨h1 rfl,rfl⟩)
 | .take::w,i,j,s,some x,hc,_,h2=>by
  have hc':i+countA w=z.length:=by rw [← hc];simp only [countA]
  obtain ⟨a1,a2⟩:=h2 x rfl;have ih:=iI d z w i (j+1) s (some { x with taken:=x.taken+1 }) hc' (fun e=>by cases e) (fun y e=>by cases e;exact ⟨a1,a2⟩)
  show patchedG z s ((runsFrom w i (j+1) (some { x with taken:=x.taken+1 })).map (jN d))=_
  rw [ih];show (z.drop s).take (x.from_-s)++(Gq (x.taken+1) d++(keptOf w i).map (sZ d z))=(z.drop s).take (x.from_-s)++(Gq x.taken d++(d::(keptOf w i).map (sZ d z)));rw [List.replicate_succ',Hx];rfl
theorem FC {α:Type} (d:α) (z:List α) (a b:List Gn) (hz:z.length=a.length):patchedG z 0 ((runsOf a b).map (jN d))=(keptOf (way a b) 0).map (sZ d z):=by
 unfold runsOf;have:=iI d z (way a b) 0 0 0 none (by rw [oy,i8,hz];omega) (fun _=>Go _) (fun x e=>by cases e)
 rw [this];simp
theorem uz (a b:List Gn) {r:Run} (hr:r∈runsOf a b):(linesRun b r).2.2.length=r.taken:=by
 have:=zW a b r hr;show (someOf b r.place r.taken).length=_;unfold someOf;rw [HF,Hv];omega
theorem vX {α:Type} (d:α) (a b:List Gn):(between a b).map (fun x=>(x.1,x.2.1,Gq x.2.2.length d))=(runsOf a b).map (jN d):=by
 unfold between;rw [Ic];apply ID;intro r hr;show (r.from_,r.dropped,Gq (linesRun b r).2.2.length d)=_;rw [uz a b hr];rfl
theorem jM:∀ (w:List Step) (i j:Nat),(pairsFrom w i j).Pairwise (fun p q=>p.2<q.2)
 | [],_,_=>List.Pairwise.nil
 | .keep::w,i,j=>by
  show ((i,j)::pairsFrom w (i+1) (j+1)).Pairwise _;refine List.Pairwise.cons (fun p hp=>?_) (jM w (i+1) (j+1))
  have:=(mK w (i+1) (j+1) p hp).2.2.1;show j<p.2;omega
 | .drop::w,i,j=>jM w (i+1) j
 | .take::w,i,j=>jM w i (j+1)
def fillOne (z:List Nat) (o:List (Option Nat)) (p:Nat×Nat):List (Option Nat):=if o[p.2]?=some none then o.set p.2 (z[p.1]?) else o
def fillAll (z:List Nat) (l:List (Nat×Nat)) (o:List (Option Nat)):List (Option Nat):=l.foldl (fillOne z) o
theorem xB (z:List Nat) (o:List (Option Nat)) (p:Nat×Nat):(fillOne z o p).length=o.length:=by
 unfold fillOne;split
 ·rw [Ky]
 ·rfl
theorem sS (z:List Nat) (o:List (Option Nat)) (p:Nat×Nat) {k:Nat} (h:k≠p.2):(fillOne z o p)[k]?=o[k]?:=by
 unfold fillOne;split
 ·rw [Jk (HA h)]
 ·rfl
theorem yM (z:List Nat) (o:List (Option Nat)) (p:Nat×Nat):(fillOne z o p)[p.2]?=(o[p.2]?).map fun a=>a.or (z[p.1]?):=by
 unfold fillOne;split
 ·rename_i h
  have hl:=(Gj.mp h).1;rw [Je hl,h];rfl
 ·rename_i h
  cases e:o[p.2]? with
  | none=>rfl
  | some a =>
   cases a with
   | none=>exact absurd e h
   | some x=>rfl
theorem qR (z:List Nat):∀ (l:List (Nat×Nat)) (o:List (Option Nat)),l.Pairwise (fun p q=>p.2<q.2)->∀ k,(∀ x,(x,k)∈l->(fillAll z l o)[k]?=(o[k]?).map fun a=>a.or (z[x]?))/\((∀ x,(x,k)∉l)->(fillAll z l o)[k]?=o[k]?)
 | [],o,_,k=>⟨fun x hx=>by simp at hx,fun _=>rfl⟩
 | p::l,o,hp,k=>by
  obtain ⟨h1,h2⟩:=List.pairwise_cons.mp hp;have ih:=qR z l (fillOne z o p) h2 k;show (∀ x,(x,k)∈p::l->(fillAll z l (fillOne z o p))[k]?=_)/\(_->(fillAll z l (fillOne z o p))[k]?=_);constructor
  ·intro x hx
   rcases Gu.mp hx with e | hx
   ·have no:∀ y,(y,k)∉l:=fun y hy=>by
     have:=h1 _ hy;rw [← e] at this;exact IL _ this
    rw [ih.2 no];have:=yM z o p;rw [← e] at this ⊢;exact this
   ·have ne:k≠p.2:=fun e=>by
     have:=h1 _ hx;simp only at this;omega
    rw [ih.1 x hx,sS z o p ne]
  ·intro no
   have ne:k≠p.2:=fun e=>no p.1 (by rw [e];exact Hf)
   rw [ih.2 (fun x hx=>no x (G3 _ hx)),sS z o p ne]
theorem mU (z:List Nat):∀ (l:List (Nat×Nat)) (o:List (Option Nat)),(fillAll z l o).length=o.length
 | [],o=>rfl
 | p::l,o=>by
  show (fillAll z l (fillOne z o p)).length=_;rw [mU,xB]
theorem vQ (z:List Nat) (l:List (Nat×Nat)) (p:Nat×Nat) (o:List (Option Nat)):fillAll z (l++[p]) o=fillOne z (fillAll z l o) p:=by
 unfold fillAll;rw [List.foldl_append];rfl
theorem wn {h:Hl} (W:WF h) {v q:Nat} {x:IE} (hx:h[v]?=some x) (hq:x.second=some q) :
  h.whence v=(fillAll (h.whence q) (pairsOf (linesOf (h.text q)) (linesOf x.text)) (whBy h (linesOf x.text) x.first)).map fun a=>a.getD v:=by
 rw [iK W hx,hq];have hl:=jv h (linesOf x.text) x.first;generalize whBy h (linesOf x.text) x.first=A at hl ⊢;apply List.ext_getElem?;intro k;rw [Hh,Lq];have kl:(keptOf (way (linesOf (h.text q)) (linesOf x.text)) 0).length=A.length:=by rw [ku,oy,pT,hl]
 have eb:(whBy h (linesOf x.text) (some q))[k]?=((keptOf (way (linesOf (h.text q)) (linesOf x.text)) 0)[k]?).map fun (i:Option Nat)=>i.bind fun (i:Nat)=>(h.whence q)[i]?:=by
  unfold whBy;simp only;rw [Hh]
 rw [eb];have fg:=qR (h.whence q) (pairsOf (linesOf (h.text q)) (linesOf x.text)) A (jM _ 0 0) k;have kp:=fun y=>jO (way (linesOf (h.text q)) (linesOf x.text)) 0 0 k y
 rw [oy] at kp kl ⊢;cases ek:(keptOf (wayP (linesOf (h.text q)) (linesOf x.text)) 0)[k]? with
 | none =>
  have:A[k]?=none:=by
   rw [KU] at ek ⊢;omega
  rw [fg.2 (fun y hy=>by have:=(kp y).mpr (by rw [IU];exact hy);rw [ek] at this;cases this),this]
  rfl
 | some y =>
  obtain ⟨a,ha⟩:∃ a,A[k]?=some a:=⟨A[k]'(by have:=(Gj.mp ek).1;omega),Gk _⟩;cases y with
  | none =>
   rw [fg.2 (fun y hy=>by have:=(kp y).mpr (by rw [IU];exact hy);rw [ek] at this;cases this),ha]
   show some ((a.or none).getD v)=some (a.getD v);rw [Option.or_none]
  | some y =>
   have hy:=(kp y).mp ek;rw [IU] at hy;rw [fg.1 y hy,ha];rfl
theorem wj (v:Nat):∀ (A B:List (Option Nat)),A.length=B.length->(∀ b∈B,b=none)->HC (fun (a b:Option Nat)=>(a.or b).getD v) A B=A.map fun a=>a.getD v
 | [],[],_,_=>rfl
 | [],_::_,h,_=>by simp at h
 | _::_,[],h,_=>by simp at h
 | a::A,b::B,h,hb=>by
  rw [List.zipWith_cons_cons,Hs,wj v A B (by simpa using h) (fun c hc=>hb c (G3 _ hc)),hb b Hf,Option.or_none]
theorem wg (v:Nat):∀ (A B:List (Option Nat)),A.length=B.length->none∉A->HC (fun (a b:Option Nat)=>(a.or b).getD v) A B=A.map fun a=>a.getD v
 | [],[],_,_=>rfl
 | [],_::_,h,_=>by simp at h
 | _::_,[],h,_=>by simp at h
 | a::A,b::B,h,hb=>by
  rw [List.zipWith_cons_cons,Hs,wg v A B (by simpa using h) (fun hc=>hb (G3 _ hc))]
  cases a with
  | none=>exact absurd Hf hb
  | some x=>rfl
theorem rM {h:Hl} (W:WF h) {v:Nat} {x:IE} (hx:h[v]?=some x) (hq:x.second=none):h.whence v=(whBy h (linesOf x.text) x.first).map fun a=>a.getD v:=by
 rw [iK W hx,hq];refine wj v _ _ (by rw [jv,jv]) fun b hb=>?_
 obtain ⟨_,_,e⟩:=IM.mp hb;exact e.symm
theorem wm {h:Hl} (W:WF h) {v:Nat} {x:IE} (hx:h[v]?=some x) (hn:none∉whBy h (linesOf x.text) x.first):h.whence v=(whBy h (linesOf x.text) x.first).map fun a=>a.getD v:=by
 rw [iK W hx];exact wg v _ _ (by rw [jv,jv]) hn
theorem xS {h:Hl} (W:WF h) (F:FS h) {v:Nat} {x:IE} (hx:h[v]?=some x) (hf:x.first=none):h.whence v=Gq (linesOf x.text).length v:=by
 rw [rM W hx (F v x hx hf),hf];unfold whBy;rw [Ic];generalize linesOf x.text=l;induction l with
 | nil=>rfl
 | cons a l ih=>rw [Hs,GQ,Ia,ih];rfl
theorem xU {h:Hl} (W:WF h) {l:List Gn} {q:Nat} {y:IE} (hy:h[q]?=some y):whBy h l (some q)=patchedG ((h.whence q).map some) 0 ((runsOf (linesOf (h.text q)) l).map (jN none)):=by
 have tx:h.text q=y.text:=by
  unfold K7;rw [hy];rfl
 rw [FC none _ _ _ (by rw [Ge,tx,ow W hy])];unfold whBy;simp only;apply ID;intro i _;cases i with
 | none=>rfl
 | some i =>
  show (h.whence q)[i]?=(((h.whence q).map some)[i]?).getD none;rw [Hh];cases (h.whence q)[i]? <;> rfl
def encV (h:Hl) (v:IE):Gn:=le 4 (parentNum v.first)++(le 4 (parentNum v.second)++(le 4 (h.kept v).length++h.kept v))
theorem tj (h:Hl):h.bytes=ascii "SWVH" ++ (le 4 h.length++h.flatMap (encV h)):=rfl
theorem xC (h:Hl) (v:IE):(encV h v).length=12+(h.kept v).length:=by
 unfold encV;simp only [Gi,gg];omega
theorem uR (h:Hl):∀ l:List IE,(l.flatMap (encV h)).length=12*l.length+(l.map fun (v:IE)=>(h.kept v).length).sum
 | []=>rfl
 | v::l=>by
  rw [I0,Gi,uR h l,xC,GQ,Hs,List.sum_cons];omega
theorem uV {h:Hl} (G:gz h):h.bytes.length<=1200000:=by
 rw [tj,Gi,Gi,gg,uR];have h1:=G.len;have h2:=G.size;unfold Hl.size KEPT at h2;have e4:(ascii "SWVH").length=4:=by decide
 omega
theorem DN {h:Hl} (W:WF h) {v:IE} (h1:∀ q,v.first=some q->q<h.length) (ht:isText v.text=true):(h.kept v).length<=200000:=by
 unfold Ku;cases e:v.first with
 | none =>
  simp only;unfold isText at ht;rw [G8] at ht;have:v.text.length<=65536:=Gd ht.1;omega
 | some q =>
  simp only;have hq:=h1 q e;have hx:h[q]?=some h[q]:=Gk hq;have tx:h.text q=h[q].text:=by
   unfold K7;rw [hx];rfl
  rw [tx];exact uF (W q _ hx).2.2 ht
end Lb
namespace L2
open PySem PySem.Spec PyProof.Rows
abbrev Key:=Sum Int G9
def mS:Key->Gg->Bool
 | .inl k,v=>Gg.isInt k v
 | .inr x,v=>Gg.isStrOf x v
def keyH (w:Hy):Key->Int
 | .inl k=>hashInt k
 | .inr x=>hashStr w x
theorem gl:∀ {k:Key} {v:Gg},mS k v=true->(∃ i t,k=Hm i/\v=K4 i t)∨(∃ x t,k=LD x/\v=Gg.str x t)
 | .inl i,v,h=>by
  obtain ⟨t,e⟩:=Gg.isInt_shape (k:=i) (v:=v) h;exact .inl ⟨i,t,rfl,e⟩
 | .inr x,v,h=>by
  obtain ⟨t,e⟩:=Gg.isStrOf_shape (x:=x) (v:=v) h;exact .inr ⟨x,t,rfl,e⟩
theorem Br (i:Int) (t:Tok):mS (.inl i) (.int i t)=true:=by simp [mS,Gg.isInt]
theorem Bq (x:G9) (t:Tok):mS (.inr x) (.str x t)=true:=by simp [mS,Gg.isStrOf]
theorem key_ll (a b:Int):decide ((Hm a:Key)=Hm b)=(a == b):=by
 by_cases e:a=b
 ·subst e;simp
 ·have h:¬ (Hm a:Key)=Hm b:=fun q=>e (Hm.inj q)
  rw [Gc h];exact (beq_eq_false_iff_ne.mpr e).symm
theorem key_rr (a b:G9):decide ((LD a:Key)=LD b)=decide (a=b):=by
 by_cases e:a=b
 ·subst e;simp
 ·have h:¬ (LD a:Key)=LD b:=fun q=>e (LD.inj q)
  rw [Gc h,Gc e]
theorem key_lr (a:Int) (b:G9):decide ((Hm a:Key)=LD b)=false:=Gc (fun q=>nomatch q)
theorem key_rl (a:G9) (b:Int):decide ((LD a:Key)=Hm b)=false:=Gc (fun q=>nomatch q)
def mixKind (prog:Hk) (w:Hy):PySem.KeyKind prog w Key where
 is:=mS
 hash:=keyH w
 inj:=fun v a b ha hb=>by
  rcases gl ha with ⟨i,t,rfl,rfl⟩ | ⟨x,t,rfl,rfl⟩
  ·rcases gl hb with ⟨j,u,rfl,e⟩ | ⟨y,u,rfl,e⟩
   ·injection e with e1 _;rw [e1]
   ·exact nomatch e
  ·rcases gl hb with ⟨j,u,rfl,e⟩ | ⟨y,u,rfl,e⟩
   ·exact nomatch e
   ·injection e with e1 _;rw [e1]
 byValue:=fun k v h=>by
  rcases gl h with ⟨i,t,rfl,rfl⟩ | ⟨x,t,rfl,rfl⟩ <;> rfl
 pyHash:=fun hv h=>by
  rcases gl hv with ⟨i,t,rfl,rfl⟩ | ⟨x,t,rfl,rfl⟩
  ·exact wpAny_pyHash_int h
  ·exact wpAny_pyHash_str h
 eqBool:=fun hu hv h=>by
  rcases gl hu with ⟨i,t,rfl,rfl⟩ | ⟨x,t,rfl,rfl⟩
  ·rcases gl hv with ⟨j,u,rfl,rfl⟩ | ⟨y,u,rfl,rfl⟩
   ·rw [key_ll] at h;exact wpAny_eqBool_int h
   ·rw [key_lr] at h;exact Iu.int_str i t y u _ _ _ _ h
  ·rcases gl hv with ⟨j,u,rfl,rfl⟩ | ⟨y,u,rfl,rfl⟩
   ·rw [key_rl] at h;exact Iu.str_int x t j u _ _ _ _ h
   ·rw [key_rr] at h;exact wpAny_eqBool_str h
 «strs» := fun k x t v h=>by
  rcases gl h with ⟨i,u,rfl,e⟩ | ⟨y,u,rfl,e⟩
  ·exact nomatch e
  ·injection e with e1 _
   subst e1;cases v <;> rfl
theorem mL (prog:Hk) (w:Hy) (i:Int) (t:Tok):(mixKind prog w).is (.inl i) (.int i t)=true:=Br i t
theorem xm (prog:Hk) (w:Hy) (x:G9) (t:Tok):(mixKind prog w).is (.inr x) (.str x t)=true:=Bq x t
end L2
namespace L2
open PySem PySem.Spec PyProof.Rows
inductive V where
 | non | bl (b:Bool) | int (i:Int) | str (x:G9) | byt (b:Array UInt8) | flt (b:UInt64) | ref (a:Gf) | ty (n:String)
 deriving DecidableEq
def fE:V->Gg->Prop
 | .non,u=>u=Iy
 | .bl b,u=>u=Gg.bool b
 | .int i,u=>∃ t,u=K4 i t
 | .str x,u=>∃ t,u=Gg.str x t
 | .byt b,u=>∃ t,u=Gg.bytes b t
 | .flt b,u=>∃ t,u=Gg.float b t
 | .ref a,u=>u=Hq a
 | .ty n,u=>u=J0 n
abbrev fu:List V->List Gg->Prop:=Jg fE
theorem fu.length {xs:List V} {us:List Gg} (r:fu xs us):xs.length=us.length:=JS r
theorem fu.get:∀ {xs:List V} {us:List Gg} {i:Nat} {x:V},fu xs us->xs[i]?=some x->∃ u,us[i]?=some u/\fE x u
 | _,_,_,_,.nil,e=>by simp at e
 | _,_,0,_,.cons r _,e=>by simp at e;subst e;exact ⟨_,rfl,r⟩
 | _,_,i+1,x,.cons _ t,e=>by
  obtain ⟨u,h1,h2⟩:=fu.get (i:=i) (x:=x) t (by simpa using e);exact ⟨u,by simpa using h1,h2⟩
theorem fu.set {x:V} {u:Gg} (r:fE x u):∀ {xs:List V} {us:List Gg} (i:Nat),fu xs us->fu (xs.set i x) (us.set i u)
 | _,_,_,.nil => .nil
 | _,_,0,.cons _ t => .cons r t
 | _,_,i+1,.cons q t => .cons q (fu.set r i t)
theorem fu.append:∀ {xs ys:List V} {us ws:List Gg},fu xs us->fu ys ws->fu (xs++ys) (us++ws)
 | _,_,_,_,.nil,s=>s
 | _,_,_,_,.cons r t,s => .cons r (fu.append t s)
theorem fu.take:∀ {xs:List V} {us:List Gg} (n:Nat),fu xs us->fu (xs.take n) (us.take n)
 | _,_,0,_ => .nil
 | _,_,_+1,.nil => .nil
 | _,_,n+1,.cons r t => .cons r (fu.take n t)
theorem fu.drop:∀ {xs:List V} {us:List Gg} (n:Nat),fu xs us->fu (xs.drop n) (us.drop n)
 | _,_,0,r=>r
 | _,_,_+1,.nil => .nil
 | _,_,n+1,.cons _ t=>fu.drop n t
def jB:Option V->Option Gg->Prop
 | some v,some u=>fE v u
 | none,none=>True
 | _,_=>False
def KV {κ:Type}:List (κ×V)->List (κ×Gg)->Prop:=Jg fun (p:κ×V) (q:κ×Gg)=>p.1=q.1/\fE p.2 q.2
def kV:Key->V
 | .inl i => .int i
 | .inr x => .str x
inductive HO where
 | lst (xs:List V)
 | tup (xs:List V)
 | dK (kvs:List (Key×V)) | dT (kvs:List (List Key×V))
 | set (S:Int->Bool) (n:Nat)
 | ins (C dx:Gf) (fs:List (G9×V))
 | own (x:Gf)
 | xd (fs:List (G9×V))
 | met (f x:Gf)
 | rng (lo hi:Int)
 | frz (o:Io) (u:HO)
 | tbl (ps:Array Gg)
 | ext (φ:GZ->Prop)
abbrev Hp:=Gf->Option HO
def upd (H:Hp) (a:Gf) (o:HO):Hp:=fun b=>if b=a then some o else H b
theorem eC {H:Hp} {a:Gf} {o:HO}:upd H a o a=some o:=by unfold upd;rw [Ga rfl]
theorem eK {H:Hp} {a b:Gf} {o:HO} (h:b≠a):upd H a o b=H b:=by unfold upd;rw [F9 h]
theorem Es {H:Hp} {a:Gf} {o u:HO}:upd (upd H a o) a u=upd H a u:=by
 funext b;unfold upd;split <;> rfl
theorem fG {H:Hp} {a b:Gf} {o u:HO} (h:H a=some o) (h':H b=some u) (d:o≠u):a≠b:=by
 intro e;subst e;rw [h] at h';exact d (Hd h')
theorem eW {H:Hp} {a b:Gf} {o:HO} (h:H a=some o) (h':H b=none):a≠b:=by
 intro e;subst e;rw [h] at h';cases h'
section
variable (P:Hk) (w:Hy)
def f8 (H:Hp) (h:GZ) (a:Gf):HO->Prop
 | .lst xs=>xs.length<=sizeLine/\∃ (its:List Gg) (n:Nat),fu xs its/\h.get? a=some { cls := .type "list",data := .seq its.toArray n }
 | .tup xs=>xs.length<=sizeLine/\∃ its:List Gg,fu xs its/\IsTup h a its.toArray
 | .dK kvs=>kvs.length<=sizeLine/\(a == sysModules)=false/\∃ vs,KV kvs vs/\h.DictOf (mixKind P w) a vs
 | .dT kvs=>kvs.length<=sizeLine/\(a == sysModules)=false/\∃ xs:List (List Key×Gf×Gg),
   Jg (fun (p:List Key×V) (q:List Key×Gf×Gg)=>p.1=q.1/\H q.2.1=some (.tup (p.1.map kV))/\fE p.2 q.2.2) kvs xs /\
   ∃ o es ep,h.get? a=some o/\o.ExactDict/\o.data = .dict es ep/\es.toList=xs.map (entryOfKey (tupleKind (mixKind P w)))/\(xs.map (·.1)).Nodup
 | .set S n=>h.SetOf (intKind P w) a S n
 | .ins C dx fs=>H dx=some (.own a)/\fs.length<=1000/\dx≠a/\h.get? a=some (Ji C dx) /\
   ∃ mA,h.Ns1 dx mA/\(∀ f,jB (fs.lookup f) (mA f))/\KB mA (fs.map (·.1))
 | .own _=>∃ o,h.get? a=some o
 | .xd fs=>∃ mA,h.Ns1 a mA/\∀ f,jB (fs.lookup f) (mA f)
 | .rng lo hi=>∃ t u v,h.get? a=some { cls := .type "range",data := .fields #[.int lo t,.int hi u,.int 1 v] }
 | .frz o u=>h.get? a=some o/\f8 H h a u
 | .tbl ps=>h.get? a=some { cls := .none,data := .fields ps }
 | .met f x=>h.get? a=some (LJ (.ref f) (.ref x))
 | .ext φ=>φ h/\(∃ o,h.get? a=some o)/\∀ h1 h2:GZ,φ h1->(∀ o,h1.get? a=some o->h2.get? a=some o)->φ h2
def HOk (H:Hp) (h:GZ):Prop:=∀ a o,H a=some o->f8 P w H h a o
end
section
variable {P:Hk} {w:Hy} {H H':Hp} {h h':GZ} {a:Gf} {o:HO}
theorem f8.lt (x:f8 P w H h a o):a<h.objs.size:=by
 cases o with
 | lst xs=>obtain ⟨_,_,_,_,e⟩:=x;exact Ha e
 | tup xs=>obtain ⟨_,_,_,p⟩:=x;exact p.lt
 | dK kvs=>obtain ⟨_,_,_,_,o,_,_,e,_⟩:=x;exact Ha e
 | dT kvs=>obtain ⟨_,_,_,_,o,_,_,e,_⟩:=x;exact Ha e
 | set S n=>obtain ⟨o,_,_,_,e,_⟩:=x;exact Ha e
 | ins C dx fs=>obtain ⟨_,_,_,e,_⟩:=x;exact Ha e
 | own y=>obtain ⟨_,e⟩:=x;exact Ha e
 | xd fs=>obtain ⟨_,⟨_,_,_,e,_⟩,_⟩:=x;exact Ha e
 | rng lo hi=>obtain ⟨_,_,_,e⟩:=x;exact Ha e
 | frz ob u=>obtain ⟨e,_⟩:=x;exact Ha e
 | tbl ps=>exact Ha (show h.get? a=some _ from x)
 | met f y=>exact Ha (show h.get? a=some _ from x)
 | ext φ=>obtain ⟨_,⟨_,e⟩,_⟩:=x;exact Ha e
theorem Jg.mapP {α β:Type} {F G:α->β->Prop}:∀ {l₁:List α} {l₂:List β},Jg F l₁ l₂->(∀ a b,F a b->G a b)->Jg G l₁ l₂
 | _,_,.nil,_ => .nil
 | _,_,.cons r t,f => .cons (f _ _ r) (Jg.mapP t f)
theorem f8.stay (x:f8 P w H h a o) (k:∀ b u,(b=a∨H b=some (.own a))->h.get? b=some u->h'.get? b=some u)
  (ho:∀ b,H b=some (.own a)->H' b=some (.own a)) (ht:∀ b xs,H b=some (.tup xs)->H' b=some (.tup xs)):f8 P w H' h' a o:=by
 induction o with
 | lst xs=>obtain ⟨z,its,n,r,e⟩:=x;exact ⟨z,its,n,r,k _ _ (.inl rfl) e⟩
 | tup xs=>obtain ⟨z,its,r,ob,e,c⟩:=x;exact ⟨z,its,r,ob,k _ _ (.inl rfl) e,c⟩
 | dK kvs=>obtain ⟨z,y,vs,r,ob,es,ep,e,c⟩:=x;exact ⟨z,y,vs,r,ob,es,ep,k _ _ (.inl rfl) e,c⟩
 | dT kvs =>
  obtain ⟨z,y,xs,r,ob,es,ep,e,c⟩:=x;exact ⟨z,y,xs,Jg.mapP r fun p q z=>⟨z.1,ht _ _ z.2.1,z.2.2⟩,ob,es,ep,k _ _ (.inl rfl) e,c⟩
 | set S n=>obtain ⟨ob,es,ep,t,e,c⟩:=x;exact ⟨ob,es,ep,t,k _ _ (.inl rfl) e,c⟩
 | ins C dx fs =>
  obtain ⟨d,z,ne,e,mA,⟨od,es,ep,e2,c⟩,r⟩:=x;exact ⟨ho _ d,z,ne,k _ _ (.inl rfl) e,mA,⟨od,es,ep,k _ _ (.inr d) e2,c⟩,r⟩
 | own y=>obtain ⟨ob,e⟩:=x;exact ⟨ob,k _ _ (.inl rfl) e⟩
 | xd fs=>obtain ⟨mA,⟨od,es,ep,e,c⟩,r⟩:=x;exact ⟨mA,⟨od,es,ep,k _ _ (.inl rfl) e,c⟩,r⟩
 | rng lo hi=>obtain ⟨t,u,v,e⟩:=x;exact ⟨t,u,v,k _ _ (.inl rfl) e⟩
 | frz ob u ih=>obtain ⟨e,q⟩:=x;exact ⟨k _ _ (.inl rfl) e,ih q⟩
 | tbl ps =>
  have e:h.get? a=some { cls := .none,data := .fields ps }:=x;show h'.get? a=some { cls := .none,data := .fields ps };exact k a _ (.inl rfl) e
 | met f y =>
  have e:h.get? a=some (LJ (.ref f) (.ref y)):=x;show h'.get? a=some (LJ (.ref f) (.ref y));exact k a _ (.inl rfl) e
 | ext φ=>obtain ⟨p,⟨o,e⟩,st⟩:=x;exact ⟨st _ _ p fun o q=>k _ _ (.inl rfl) q,⟨o,k _ _ (.inl rfl) e⟩,st⟩
theorem HOk.lt (x:HOk P w H h) (e:H a=some o):a<h.objs.size:=(x a o e).lt
theorem HOk.fresh (x:HOk P w H h) (e:h.objs.size<=a):H a=none:=by
 cases q:H a with
 | none=>rfl
 | some u=>exact absurd (Ho (x.lt q) e) (IL _)
theorem HOk.kept (x:HOk P w H h) (k:∀ b u,h.get? b=some u->h'.get? b=some u):HOk P w H h':=fun a o e =>
 (x a o e).stay (fun b u _ q=>k b u q) (fun _ q=>q) fun _ _ q=>q
theorem HOk.laid (x:HOk P w H h) (k:∀ b u,h.get? b=some u->h'.get? b=some u) (hp:h.objs.size<=a) (new:f8 P w (upd H a o) h' a o):HOk P w (upd H a o) h':=fun b u e=>by
 have hn:=x.fresh hp;by_cases hb:b=a
 ·subst hb;rw [eC] at e;cases e;exact new
 ·rw [eK hb] at e
  exact (x b u e).stay (fun c v _ q=>k c v q) (fun c q=>by rw [eK (eW q hn)];exact q) fun c xs q=>by rw [eK (eW q hn)];exact q
end
def Rd (H:Hp) (a:Gf) (u:HO):Prop:=H a=some u∨∃ o,H a=some (.frz o u)
theorem Rd.ok {P:Hk} {w:Hy} {H:Hp} {h:GZ} {a:Gf} {u:HO} (r:Rd H a u) (x:HOk P w H h):f8 P w H h a u:=by
 rcases r with r | ⟨o,r⟩
 ·exact x a u r
 ·obtain ⟨_,q⟩:=x a _ r
  exact q
def Mut:Option HO->Prop
 | some (.lst _)=>True
 | some (.dK _)=>True
 | some (.dT _)=>True
 | some (.set _ _)=>True
 | some (.ins _ _ _)=>True
 | some (.ext _)=>True
 | _=>False
section
variable {P:Hk} {w:Hy} {H:Hp} {h h':GZ} {x e:Gf} {o':HO}
theorem HOk.write (ok:HOk P w H h) (mu:Mut (H x)) (he:e=x∨H e=some (.own x)) (k:∀ b u,b≠e->h.get? b=some u->h'.get? b=some u) (heo:∃ u,h'.get? e=some u)
  (new:f8 P w (upd H x o') h' x o'):HOk P w (upd H x o') h':=fun b u q=>by
 have nown:∀ c y,H c=some (.own y)->c≠x:=fun c y r z=>by subst z;rw [r] at mu;exact mu
 have ntup:∀ c xs,H c=some (.tup xs)->c≠x:=fun c xs r z=>by subst z;rw [r] at mu;exact mu
 by_cases hb:b=x
 ·subst hb;rw [eC] at q;cases q;exact new
 ·rw [eK hb] at q
  by_cases hbe:b=e
  ·have q':H b=some (.own x):=by
    rcases he with z | z
    ·exact absurd (hbe.trans z) hb
    ·rw [hbe];exact z
   rw [q] at q';cases q';obtain ⟨v,hv⟩:=heo;exact ⟨v,by rw [hbe];exact hv⟩
  ·refine (ok b u q).stay (fun c v hc r=>k c v ?_ r) (fun c r=>by rw [eK (nown c b r)];exact r) fun c xs r=>by rw [eK (ntup c xs r)];exact r
   rcases hc with rfl | hc
   ·exact hbe
   ·rintro rfl
    rcases he with z | z
    ·exact nown c b hc z
    ·rw [hc] at z;cases z;exact hb rfl
end
structure Un (fs ex:List Gf) (H H':Hp) (h h':GZ):Prop where
 keep:∀ b o,h.get? b=some o->H b=none->b∉fs->b∉ex->h'.get? b=some o
 slot:∀ b o,h.get? b=some o->H b=none->b∈fs->b∉ex->∃ sl,h'.get? b=some { o with slots:=sl }
 free:∀ b o,h.get? b=some o->H b=none->b∉ex->H' b=none
 there:∀ b o,h.get? b=some o->b∉ex->∃ o',h'.get? b=some o'
 tups:∀ b xs,H b=some (.tup xs)->H' b=some (.tup xs)
 frzs:∀ b o u,H b=some (.frz o u)->H' b=some (.frz o u)
 tbls:∀ b ps,H b=some (.tbl ps)->∃ more,H' b=some (.tbl (ps++more))
section
variable {fs fs' ex ex':List Gf} {H H1 H2:Hp} {h h1 h2 h':GZ} {a x e:Gf} {o:HO}
theorem Un.any (u:Un fs ex H H1 h h1) {b:Gf} {ob:Io} (q:h.get? b=some ob) (n:H b=none) (hx:b∉ex):∃ sl,h1.get? b=some { ob with slots:=sl }:=by
 by_cases hb:b∈fs
 ·exact u.slot b ob q n hb hx
 ·exact ⟨ob.slots,u.keep b ob q n hb hx⟩
theorem Un.kept (k:∀ b u,h.get? b=some u->h'.get? b=some u):Un fs ex H H h h' :=
 ⟨fun b ob q _ _ _=>k b ob q,fun b ob q _ _ _=>⟨ob.slots,k b ob q⟩,fun _ _ _ n _=>n,fun b ob q _=>⟨ob,k b ob q⟩,fun _ _ q=>q,fun _ _ _ q=>q,fun _ ps q=>⟨#[],by rw [q];simp⟩⟩
theorem Un.refl:Un fs ex H H h h:=Un.kept fun _ _ q=>q
theorem Un.laid (k:∀ b u,h.get? b=some u->h'.get? b=some u) (hp:h.objs.size<=a) (hn:H a=none):Un fs ex H (upd H a o) h h' where
 keep:=fun b u q _ _ _=>k b u q
 slot:=fun b u q _ _ _=>⟨u.slots,k b u q⟩
 free:=fun b u q n _=>by rw [eK (Hu (Ho (Ha q) hp))];exact n
 there:=fun b u q _=>⟨u,k b u q⟩
 tups:=fun b xs q=>by rw [eK (eW q hn)];exact q
 frzs:=fun b u xs q=>by rw [eK (eW q hn)];exact q
 tbls:=fun b ps q=>⟨#[],by rw [eK (eW q hn),q];simp⟩
theorem Un.write (mu:Mut (H x)) (he:e=x∨H e=some (.own x)) (k:∀ b u,b≠e->h.get? b=some u->h'.get? b=some u) (heo:∃ u,h'.get? e=some u):Un fs ex H (upd H x o) h h':=by
 have hx:∀ b,H b=none->b≠x:=fun b n z=>by subst z;rw [n] at mu;exact mu
 have hb:∀ b,H b=none->b≠e:=fun b n z=>by
  subst z;rcases he with r | r
  ·exact hx b n r
  ·rw [n] at r;cases r
 have hm:∀ b u,H b=some u->¬ Mut (some u)->b≠x:=fun b u q nm z=>by subst z;rw [q] at mu;exact nm mu
 refine ⟨fun b u q n _ _=>k b u (hb b n) q,fun b u q n _ _=>⟨u.slots,k b u (hb b n) q⟩,fun b u q n _=>by rw [eK (hx b n)];exact n,fun b u q _=>?_,
  fun b xs q=>by rw [eK (hm b _ q fun z=>z)];exact q,fun b u xs q=>by rw [eK (hm b _ q fun z=>z)];exact q,fun b ps q=>⟨#[],by rw [eK (hm b _ q fun z=>z),q];simp⟩⟩
 by_cases hbe:b=e
 ·subst hbe;exact heo
 ·exact ⟨u,k b u hbe q⟩
end
def trk (h:GZ) (H:Hp):List Gf:=(IR h.objs.size).filter fun a=>(H a).isSome
def hidT (h:GZ) (H:Hp):GZ:=PySem.W.hideAll h (trk h H)
theorem Bv (h:GZ) (H:Hp):(hidT h H).objs.size=h.objs.size:=PySem.W.hideAll_size _ _
theorem DQ {h:GZ} {H:Hp} {b:Gf} {o:Io} (e:h.get? b=some o) (n:H b=none):(hidT h H).get? b=some o :=
 PySem.W.hideAll_get _ e fun hm=>by
  have q:(H b).isSome=true:=(Kx.mp hm).2;rw [n] at q;simp at q
theorem Fp {h:GZ} {H:Hp} {b:Gf} {o:Io} (e:(hidT h H).get? b=some o):h.get? b=some o/\H b=none:=by
 have e':h.get? b=some o:=PySem.W.of_hideAll (trk h H) e;refine ⟨e',?_⟩;cases q:H b with
 | none=>rfl
 | some x =>
  have hm:b∈trk h H:=Kx.mpr ⟨List.mem_range.mpr (Ha e'),by simp [q]⟩;have z:(hidT h H).get? b=none:=PySem.W.hideAll_none (trk h H) hm;rw [z] at e;cases e
end L2
namespace L2
open PySem PySem.Spec PyProof.Rows
structure Mod (K:Gh) (mg:G9->Option Gg) (base:GZ):Prop where
 kin:K.In base
 glob:base.Ns mainGlobals mg
 blt:∃ mb,base.Ns builtinsNs mb/\∀ x:G9,x ≠ "__name__" -> mb x=bootBuiltins x
 nolimit:base.NoLimit
structure Cx where
 prog:Hk
 w:Hy
 K:Gh
 mg:G9->Option Gg
 base:GZ
 A:HB
 N:List G9
 s_0:Gp
 H_0:Hp
 env:L5
 outer:List L5
 stack:List L5
 ex:List Gf
 fn:G9->Bool
 calm:Bool
 pn:List (Gf×Io)
 xe:Gg->Gp->Prop
def frs (l:List L5):List Gf:=l.filterMap (·.frame)
abbrev Cx.fs (X:Cx):List Gf:=frs X.outer
def Vis (sc:JL) (x:G9):Prop:=sc.names.lookup x=some .local∨sc.names.lookup x=some .cell∨sc.names.lookup x=some .free
def Loc (sc:JL) (x:G9):Prop:=sc.names.lookup x=some .local∨sc.names.lookup x=some .cell
def Look (env:L5) (h:GZ) (m:G9->Option Gg) (x:G9) (u:Gg):Prop :=
 (env.kindOf x=some .local/\m x=some u)∨((env.kindOf x=some .cell∨env.kindOf x=some .free)/\∃ c,env.cells.lookup x=some c/\h.IsCell c (some u))
structure Cx.Ok (X:Cx):Prop where
 mod:Mod X.K X.mg X.base
 kind:X.env.scope.kind = .function
 glob:X.env.globals=mainGlobals
 blt:X.env.builtins=builtinsNs
 above:X.s_0.heap.objs.size<=X.env.locals
 inj:∀ x y c,X.env.cells.lookup x=some c->X.env.cells.lookup y=some c->x=y
 has:∀ x,(X.env.kindOf x=some .cell∨X.env.kindOf x=some .free)->∃ c,X.env.cells.lookup x=some c
 cab:∀ x c,X.fn x=true->X.env.cells.lookup x=some c->X.s_0.heap.objs.size<=c
 hd:X.calm=true->X.A.handled=none
 frames:X.A.frames=some X.stack
 stk:X.stack=X.outer∨(X.stack=X.env::X.outer/\X.env.frame=some X.env.locals)
 exf:∀ b∈X.ex,b≠X.env.locals/\∀ x c,X.env.cells.lookup x=some c->c≠b
 bs:∀ b o,X.base.get? b=some o->X.s_0.heap.get? b=some o/\X.H_0 b=none
 bsz:X.base.objs.size<=X.s_0.heap.objs.size
 noex:∀ b o,X.base.get? b=some o->b∉X.ex
 exfs:∀ b∈X.ex,b∉X.fs
 funs:X.s_0.heap.FunFrames X.base X.outer
 frf:∀ b∈X.fs,X.H_0 b=none
structure Inv (X:Cx) (pins:List (Gf×Io)) (σ:List (Option V)) (H:Hp) (s:Gp):Prop where
 ok:X.Ok
 os:s.os=X.s_0.os
 bare:LY s.gens
 base:Un X.fs X.ex X.H_0 H X.s_0.heap s.heap
 loc:∃ m,s.heap.Ns X.env.locals m/\∀ (i:Nat) (x:G9) (v:V),X.N[i]?=some x->σ[i]?=some (some v)->Vis X.env.scope x->∃ u,fE v u/\Look X.env s.heap m x u
 cell:∀ x c,X.env.cells.lookup x=some c->∃ v,s.heap.IsCell c v
 free:H X.env.locals=none
 freeC:∀ x c,X.env.cells.lookup x=some c->H c=none
 pin:∀ p∈X.pn++pins,s.heap.get? p.1=some p.2/\H p.1=none/\p.1≠X.env.locals/\p.1∉X.fs/\∀ v,p.2.data ≠ .cell v
 hok:HOk X.prog X.w H s.heap
 len:σ.length=X.N.length
section
variable {X:Cx} {pins:List (Gf×Io)} {σ:List (Option V)} {H H':Hp} {s:Gp} {h':GZ}
theorem Cx.Ok.nofr (ok:X.Ok) {b:Gf} {o:Io} (e:X.base.get? b=some o):b∉X.fs:=fun hb=>by
 have:=(ok.funs.mem hb).1;rw [e] at this;cases this
theorem Inv.bs (I:Inv X pins σ H s):∀ b o,X.base.get? b=some o->s.heap.get? b=some o/\H b=none:=fun b o e =>
 ⟨I.base.keep b o (I.ok.bs b o e).1 (I.ok.bs b o e).2 (I.ok.nofr e) (I.ok.noex b o e),I.base.free b o (I.ok.bs b o e).1 (I.ok.bs b o e).2 (I.ok.noex b o e)⟩
theorem Inv.bk (I:Inv X pins σ H s):∀ b o,X.base.get? b=some o->s.heap.get? b=some o:=fun b o e=>(I.bs b o e).1
theorem Inv.mod (I:Inv X pins σ H s):Mod X.K X.mg X.base:=I.ok.mod
theorem Inv.kIn (I:Inv X pins σ H s):X.K.In s.heap:=I.ok.mod.kin.keeps I.bk
theorem Inv.lt (I:Inv X pins σ H s):X.env.locals<s.heap.objs.size:=let ⟨_,hn,_⟩:=I.loc;hn.lt
theorem Inv.sz (I:Inv X pins σ H s):X.s_0.heap.objs.size<=s.heap.objs.size:=Ie I.ok.above (Lj I.lt)
theorem Inv.nofs (I:Inv X pins σ H s) {a:Gf} (h:s.heap.objs.size<=a):a∉X.fs:=fun hb=>by
 obtain ⟨_,o,ho,_⟩:=I.ok.funs.mem hb;exact absurd (Ho (Ha ho) (Ie I.sz h)) (IL _)
theorem Inv.cne (I:Inv X pins σ H s):∀ x c,X.env.cells.lookup x=some c->c≠X.env.locals:=fun x c e z=>by
 obtain ⟨v,o,ho,hd⟩:=I.cell x c e;obtain ⟨m,⟨o',es,ep,ho',hd',_⟩,_⟩:=I.loc;rw [z,ho'] at ho;cases ho;rw [hd'] at hd;cases hd
theorem Inv.funs (I:Inv X pins σ H s):s.heap.FunFrames X.base X.outer:=by
 have all:∀ (l:List L5),(∀ b∈frs l,b∈X.fs)->X.s_0.heap.FunFrames X.base l->s.heap.FunFrames X.base l:=by
  intro l;induction l with
  | nil=>intro _ _;trivial
  | cons env r ih =>
   intro hs hl;obtain ⟨hk,⟨L,o,hf,hn,ho,hd⟩,hr⟩:=hl;have hL:L∈X.fs:=hs L (by unfold frs;rw [JV,hf];exact Hf);obtain ⟨sl,e⟩:=I.base.slot L o ho (I.ok.frf L hL) hL fun z=>I.ok.exfs L z hL
   exact ⟨hk,⟨L,_,hf,hn,e,hd⟩,ih (fun b hb=>hs b (by unfold frs;rw [JV,hf];exact G3 _ hb)) hr⟩
 exact all X.outer (fun _ hb=>hb) I.ok.funs
theorem Inv.stack (I:Inv X pins σ H s):s.heap.FunFrames X.base X.stack:=by
 rcases I.ok.stk with e | ⟨e,hf⟩
 ·rw [e];exact I.funs
 ·rw [e]
  obtain ⟨m,hn,_⟩:=I.loc;refine .cons (by rw [I.ok.kind];decide) hf hn ?_ I.funs;exact Kq (Ie I.ok.bsz I.ok.above)
theorem Inv.stkSub (I:Inv X pins σ H s):∀ b∈frs X.stack,b∈X.env.locals::X.fs:=fun b hb=>by
 rcases I.ok.stk with e | ⟨e,hf⟩
 ·rw [e] at hb;exact G3 _ hb
 ·rw [e] at hb
  unfold frs at hb;rw [JV,hf] at hb;exact hb
theorem Inv.stkFree (I:Inv X pins σ H s):∀ b∈frs X.stack,H b=none:=fun b hb=>by
 rcases Gu.mp (I.stkSub b hb) with e | hb
 ·rw [e];exact I.free
 ·obtain ⟨_,o,ho,_⟩:=I.ok.funs.mem hb
  exact I.base.free b o ho (I.ok.frf b hb) fun z=>I.ok.exfs b z hb
theorem Inv.step {g':Array GenState} {t':Nat} {d':Drawn} {ch:List Gf} (I:Inv X pins σ H s)
  (hch:∀ b∈ch,(b∈X.ex∨X.s_0.heap.objs.size<=b)/\b≠X.env.locals/\(∀ x c,X.env.cells.lookup x=some c->c≠b)/\∀ p∈X.pn++pins,p.1≠b)
  (keep:∀ b o,b≠X.env.locals->b∉X.fs->b∉ch->s.heap.get? b=some o->H b=none->h'.get? b=some o)
  (slot:∀ b o,b≠X.env.locals->b∈X.fs->b∉ch->s.heap.get? b=some o->H b=none->∃ sl,h'.get? b=some { o with slots:=sl }) (free:∀ b o,b∉ch->s.heap.get? b=some o->H b=none->H' b=none)
  (there:∀ b o,b∉ch->s.heap.get? b=some o->∃ o',h'.get? b=some o')
  (tups:∀ b xs,H b=some (.tup xs)->H' b=some (.tup xs)) (frzs:∀ b o u,H b=some (.frz o u)->H' b=some (.frz o u)) (tbls:∀ b ps,H b=some (.tbl ps)->∃ more,H' b=some (.tbl (ps++more)))
  (ns:∀ m,s.heap.Ns X.env.locals m->h'.Ns X.env.locals m) (hok:HOk X.prog X.w H' h') (hg:LY g') :
  Inv X pins σ H' { s with heap:=h',gens:=g',drawn:=d',toks:=t' }:=by
 have neL:∀ b o,X.s_0.heap.get? b=some o->b≠X.env.locals:=fun b o e=>Hu (Ho (Ha e) I.ok.above)
 have neC:∀ b o,X.s_0.heap.get? b=some o->b∉X.ex->b∉ch:=fun b o e hx hb=>by
  rcases (hch b hb).1 with z | z
  ·exact hx z
  ·exact absurd (Ho (Ha e) z) (IL _)
 have cellK:∀ x c,X.env.cells.lookup x=some c->∀ v,s.heap.IsCell c v->h'.IsCell c v:=fun x c e v ⟨o,ho,hd⟩=>by
  have nch:c∉ch:=fun z=>(hch c z).2.2.1 x c e rfl
  by_cases hc:c∈X.fs
  ·obtain ⟨sl,q⟩:=slot c o (I.cne x c e) hc nch ho (I.freeC x c e)
   exact ⟨_,q,hd⟩
  ·exact ⟨o,keep c o (I.cne x c e) hc nch ho (I.freeC x c e),hd⟩
 refine ⟨I.ok,I.os,hg,⟨fun b o e n hb hx=>?_,fun b o e n hb hx=>?_,fun b o e n hx=>?_,fun b o e hx=>?_,fun b xs e=>tups b xs (I.base.tups b xs e),fun b o xs e=>frzs b o xs (I.base.frzs b o xs e),fun b ps e=>?_⟩,?_,fun x c e=>?_,?_,fun x c e=>?_,fun p hp=>?_,hok,I.len⟩
 ·exact keep b o (neL b o e) hb (neC b o e hx) (I.base.keep b o e n hb hx) (I.base.free b o e n hx)
 ·obtain ⟨sl,e1⟩:=I.base.slot b o e n hb hx
  obtain ⟨sl',e2⟩:=slot b _ (neL b o e) hb (neC b o e hx) e1 (I.base.free b o e n hx);exact ⟨sl',e2⟩
 ·obtain ⟨o',e1⟩:=I.base.there b o e hx
  exact free b o' (neC b o e hx) e1 (I.base.free b o e n hx)
 ·obtain ⟨o',e1⟩:=I.base.there b o e hx
  exact there b o' (neC b o e hx) e1
 ·obtain ⟨m1,e1⟩:=I.base.tbls b ps e
  obtain ⟨m2,e2⟩:=tbls b _ e1;exact ⟨m1++m2,by rw [e2,Array.append_assoc]⟩
 ·obtain ⟨m,hn,hl⟩:=I.loc
  refine ⟨m,ns m hn,fun i x v e1 e2 e3=>?_⟩
  obtain ⟨u,r,l⟩:=hl i x v e1 e2 e3;refine ⟨u,r,?_⟩;rcases l with l | ⟨k,c,e,z⟩
  ·exact .inl l
  ·exact .inr ⟨k,c,e,cellK x c e _ z⟩
 ·obtain ⟨v,z⟩:=I.cell x c e
  exact ⟨v,cellK x c e v z⟩
 ·obtain ⟨m,⟨o,_,_,ho,_⟩,_⟩:=I.loc
  exact free _ o (fun z=>(hch _ z).2.1 rfl) ho I.free
 ·obtain ⟨v,o,ho,hd⟩:=I.cell x c e
  exact free c o (fun z=>(hch c z).2.2.1 x c e rfl) ho (I.freeC x c e)
 ·obtain ⟨e,n,ne,nf,d⟩:=I.pin p hp
  have nch:p.1∉ch:=fun z=>(hch p.1 z).2.2.2 p hp rfl
  exact ⟨keep p.1 p.2 ne nf nch e n,free p.1 p.2 nch e n,ne,nf,d⟩
theorem Inv.un {t':Nat} (I:Inv X pins σ H s) (u:Un X.fs [] H H' s.heap h') (hok:HOk X.prog X.w H' h'):Inv X pins σ H' { s with heap:=h',toks:=t' }:=by
 obtain ⟨m,⟨o,es,ep,ho,r⟩,_⟩:=id I.loc;obtain ⟨sl,hL⟩:=u.any ho I.free (by simp);exact I.step (g':=s.gens) (d':=s.drawn) (ch:=[]) (fun _ z=>nomatch z) (fun b o _ hb _ e n=>u.keep b o e n hb (by simp)) (fun b o _ hb _ e n=>u.slot b o e n hb (by simp)) (fun b o _ e n=>u.free b o e n (by simp)) (fun b o _ e=>u.there b o e (by simp)) u.tups u.frzs u.tbls (fun m' hm=>by
  obtain ⟨o',es',ep',ho',r'⟩:=hm;rw [ho] at ho';cases ho';exact ⟨_,es',ep',hL,r'⟩) hok I.bare
theorem Inv.call {g':Array GenState} {t':Nat} {d':Drawn} {ch:List Gf} (I:Inv X pins σ H s) (u:Un (frs X.stack) ch H H' s.heap h') (hok:HOk X.prog X.w H' h') (hg:LY g')
  (hch:∀ b∈ch,(b∈X.ex∨X.s_0.heap.objs.size<=b)/\b≠X.env.locals/\(∀ x c,X.env.cells.lookup x=some c->c≠b)/\∀ p∈X.pn++pins,p.1≠b) :
  Inv X pins σ H' { s with heap:=h',gens:=g',drawn:=d',toks:=t' }:=by
 obtain ⟨m,⟨o,es,ep,ho,r⟩,_⟩:=id I.loc;obtain ⟨sl,hL⟩:=u.any ho I.free fun z=>(hch _ z).2.1 rfl
 exact I.step (ch:=ch) hch (fun b o hL hb hc e n=>u.keep b o e n (fun z=>(Gu.mp (I.stkSub b z)).elim hL hb) hc) (fun b o _ _ hc e n=>u.any e n hc) (fun b o hc e n=>u.free b o e n hc) (fun b o hc e=>u.there b o e hc) u.tups u.frzs u.tbls (fun m' hm=>by
  obtain ⟨o',es',ep',ho',r'⟩:=hm;rw [ho] at ho';cases ho';exact ⟨_,es',ep',hL,r'⟩) hok hg
theorem Inv.turned {t':Nat} {it:Gf} (I:Inv X pins σ H s) (k:∀ b o,b≠it->s.heap.get? b=some o->h'.get? b=some o) (hn:H it=none) (hL:it≠X.env.locals)
  (h1:it∈X.ex∨X.s_0.heap.objs.size<=it) (h2:∀ x c,X.env.cells.lookup x=some c->c≠it) (h3:∀ p∈X.pn++pins,p.1≠it):Inv X pins σ H { s with heap:=h',toks:=t' }:=by
 have nit:∀ b u,H b=some u->b≠it:=fun b u e z=>by rw [z,hn] at e;cases e
 refine I.step (g':=s.gens) (d':=s.drawn) (ch:=[it]) (fun b hb=>?_) (fun b o _ _ hc e _=>k b o (fun z=>hc (by simp [z])) e) (fun b o _ _ hc e _=>⟨o.slots,k b o (fun z=>hc (by simp [z])) e⟩) (fun _ _ _ _ n=>n)
  (fun b o hc e=>⟨o,k b o (fun z=>hc (by simp [z])) e⟩) (fun _ _ e=>e) (fun _ _ _ e=>e) (fun b ps e=>⟨#[],by rw [e];simp⟩) (fun m hm=>?_) (fun b u e=>?_) I.bare
 ·have e:b=it:=by simpa using hb
  subst e;exact ⟨h1,hL,h2,h3⟩
 ·obtain ⟨o,es,ep,ho,r⟩:=hm
  exact ⟨o,es,ep,k _ o (HA hL) ho,r⟩
 ·refine (I.hok b u e).stay (fun c v hc q=>k c v ?_ q) (fun _ q=>q) fun _ _ q=>q
  rcases hc with z | z
  ·rw [z];exact nit b u e
  ·exact nit c _ z
theorem Inv.tok (I:Inv X pins σ H s) (t:Nat):Inv X pins σ H { s with toks:=t }:=I.un (h':=s.heap) (t':=t) Un.refl I.hok
theorem Inv.kept {t':Nat} (I:Inv X pins σ H s) (k:∀ b u,s.heap.get? b=some u->h'.get? b=some u):Inv X pins σ H { s with heap:=h',toks:=t' }:=I.un (Un.kept k) (I.hok.kept k)
theorem Inv.laid {a:Gf} {o:HO} {t':Nat} (I:Inv X pins σ H s) (k:∀ b u,s.heap.get? b=some u->h'.get? b=some u) (hp:s.heap.objs.size<=a) (new:f8 X.prog X.w (upd H a o) h' a o) :
  Inv X pins σ (upd H a o) { s with heap:=h',toks:=t' }:=I.un (Un.laid k hp (I.hok.fresh hp)) (I.hok.laid k hp new)
theorem Inv.write {x e:Gf} {o:HO} {t':Nat} (I:Inv X pins σ H s) (mu:Mut (H x)) (he:e=x∨H e=some (.own x)) (k:∀ b u,b≠e->s.heap.get? b=some u->h'.get? b=some u) (heo:∃ u,h'.get? e=some u)
  (new:f8 X.prog X.w (upd H x o) h' x o):Inv X pins σ (upd H x o) { s with heap:=h',toks:=t' }:=I.un (Un.write mu he k heo) (I.hok.write mu he k heo new)
theorem Inv.weak {σ':List (Option V)} (I:Inv X pins σ H s) (hl:σ'.length=σ.length) (w:∀ (i:Nat) v,σ'[i]?=some (some v)->σ[i]?=some (some v)):Inv X pins σ' H s :=
 ⟨I.ok,I.os,I.bare,I.base,let ⟨m,hn,hl'⟩:=I.loc;⟨m,hn,fun i x v e1 e2 e3=>hl' i x v e1 (w i v e2) e3⟩,I.cell,I.free,I.freeC,I.pin,I.hok,hl.trans I.len⟩
theorem Inv.pins_of {pins':List (Gf×Io)} (I:Inv X pins σ H s) (h:∀ p∈pins',s.heap.get? p.1=some p.2/\H p.1=none/\p.1≠X.env.locals/\p.1∉X.fs/\∀ v,p.2.data ≠ .cell v):Inv X pins' σ H s :=
 ⟨I.ok,I.os,I.bare,I.base,I.loc,I.cell,I.free,I.freeC,fun p hp=>(HS.mp hp).elim (fun z=>I.pin p (Lw _ z)) (h p),I.hok,I.len⟩
theorem pC {N:List G9} (hN:N.Nodup) {i j:Nat} {x:G9} (a:N[i]?=some x) (b:N[j]?=some x):i=j:=by
 obtain ⟨h1,e1⟩:=Gj.mp a;obtain ⟨h2,e2⟩:=Gj.mp b;exact (List.getElem_inj hN).mp (e1.trans e2.symm)
theorem tX {M:Model} {A:HB} {E:Gg->Gp->Prop} {i:Nat} {x:G9} {v:V} {u:Gg} {Q:Unit->Gp->Prop} (I:Inv X pins σ H s) (hN:X.N.Nodup) (hi:X.N[i]?=some x) (hx:Loc X.env.scope x) (r:fE v u)
  (h:∀ s',Inv X pins (σ.set i (some v)) H s'->(∃ a,J8 a s.heap s'.heap/\(a=X.env.locals∨X.env.cells.lookup x=some a))->Q () s') (hf:X.fn x=true∨X.env.scope.names.lookup x=some .local:=by first | exact .inl rfl | exact .inr rfl | assumption):wpAny M A (storeName X.env x u) Q E s:=by
 obtain ⟨m,hn,hl⟩:=id I.loc;have hcls:(X.env.scope.kind == .class || (X.env.scope.kind == .module && X.env.locals != X.env.globals))=false:=by rw [I.ok.kind];rfl
 have hiσ:i<σ.length:=by rw [I.len];exact (Gj.mp hi).1
 have cne:=I.cne;have tracked:∀ {a:Gf} {h':GZ},(∃ o,s.heap.get? a=some o/\H a=none)->J8 a s.heap h'->HOk X.prog X.w H h':=fun {a h'} ha hs b ob e=>by
  obtain ⟨_,_,hfree⟩:=ha;refine (I.hok b ob e).stay (fun c w' hc q=>(hs.2 c ?_).trans q) (fun _ q=>q) fun _ _ q=>q
  rintro rfl
  rcases hc with rfl | hc
  ·rw [hfree] at e;cases e
  ·rw [hfree] at hc;cases hc
 rcases hx with hk | hk
 ·refine wpAny_storeName_local hk hn (fun h' hn' hs=>?_) hcls
  obtain ⟨oL,_,_,hoL,_⟩:=id hn;refine h _ ⟨I.ok,I.os,I.bare,⟨fun b o e n hb hx=>?_,fun b o e n hb hx=>?_,I.base.free,fun b o e hx=>?_,I.base.tups,I.base.frzs,I.base.tbls⟩,⟨_,hn',fun j y v' e1 e2 e3=>?_⟩,fun y c e=>?_,I.free,I.freeC,fun p hp=>?_,tracked ⟨oL,hoL,I.free⟩ hs,by simpa using I.len⟩ ⟨_,hs,.inl rfl⟩
  ·exact (hs.2 b (Hu (Ho (Ha e) I.ok.above))).trans (I.base.keep b o e n hb hx)
  ·obtain ⟨sl,e1⟩:=I.base.slot b o e n hb hx
   exact ⟨sl,(hs.2 b (Hu (Ho (Ha e) I.ok.above))).trans e1⟩
  ·obtain ⟨o',e1⟩:=I.base.there b o e hx
   exact ⟨o',(hs.2 b (Hu (Ho (Ha e) I.ok.above))).trans e1⟩
  ·by_cases hj:j=i
   ·subst hj
    rw [hi] at e1;cases e1;rw [Je hiσ] at e2;cases e2;exact ⟨u,r,.inl ⟨hk,by simp⟩⟩
   ·rw [Jk (HA hj)] at e2
    obtain ⟨u',r',q⟩:=hl j y v' e1 e2 e3;refine ⟨u',r',?_⟩;rcases q with ⟨k,e⟩ | ⟨k,c,e,z⟩
    ·refine .inl ⟨k,?_⟩
     have:y≠x:=fun e=>hj (pC hN e1 (e▸hi))
     simp [this,e]
    ·exact .inr ⟨k,c,e,z.sameBut hs (cne y c e)⟩
  ·obtain ⟨w',z⟩:=I.cell y c e
   exact ⟨w',z.sameBut hs (cne y c e)⟩
  ·obtain ⟨e,n,ne,nf,d⟩:=I.pin p hp
   exact ⟨(hs.2 p.1 ne).trans e,n,ne,nf,d⟩
 ·have hfn:X.fn x=true:=by
   rcases hf with z | z
   ·exact z
   ·rw [z] at hk;cases hk
  obtain ⟨c,hc⟩:=I.ok.has x (.inl hk);obtain ⟨w',z⟩:=I.cell x c hc;refine wpAny_storeName_cell I.ok.kind hk hc z (fun h' hc' hs=>?_)
  obtain ⟨oc,hoc,hocd⟩:=id z;refine h { s with heap:=h' } ⟨I.ok,I.os,I.bare,⟨fun b o e n hb hx=>?_,fun b o e n hb hx=>?_,I.base.free,fun b o e hx=>?_,I.base.tups,I.base.frzs,I.base.tbls⟩,⟨m,hn.sameBut hs (HA (cne x c hc)),fun j y v' e1 e2 e3=>?_⟩,fun y c' e=>?_,I.free,I.freeC,fun p hp=>?_,tracked ⟨oc,hoc,I.freeC x c hc⟩ hs,by simpa using I.len⟩ ⟨c,hs,.inr hc⟩
  ·exact (hs.2 b (Hu (Ho (Ha e) (I.ok.cab x c hfn hc)))).trans (I.base.keep b o e n hb hx)
  ·obtain ⟨sl,e1⟩:=I.base.slot b o e n hb hx
   exact ⟨sl,(hs.2 b (Hu (Ho (Ha e) (I.ok.cab x c hfn hc)))).trans e1⟩
  ·obtain ⟨o',e1⟩:=I.base.there b o e hx
   exact ⟨o',(hs.2 b (Hu (Ho (Ha e) (I.ok.cab x c hfn hc)))).trans e1⟩
  ·by_cases hj:j=i
   ·subst hj
    rw [hi] at e1;cases e1;rw [Je hiσ] at e2;cases e2;exact ⟨u,r,.inr ⟨.inl hk,c,hc,hc'⟩⟩
   ·rw [Jk (HA hj)] at e2
    obtain ⟨u',r',q⟩:=hl j y v' e1 e2 e3;refine ⟨u',r',?_⟩;rcases q with q | ⟨k,c',e,z'⟩
    ·exact .inl q
    ·refine .inr ⟨k,c',e,z'.sameBut hs ?_⟩
     rintro rfl
     exact hj (pC hN e1 (I.ok.inj _ _ _ e hc▸hi))
  ·by_cases hcc:c'=c
   ·subst hcc;exact ⟨_,hc'⟩
   ·obtain ⟨w2,z2⟩:=I.cell y c' e
    exact ⟨w2,z2.sameBut hs hcc⟩
  ·obtain ⟨e,n,ne,nf,d⟩:=I.pin p hp
   refine ⟨(hs.2 p.1 ?_).trans e,n,ne,nf,d⟩;intro q;rw [q,hoc] at e;have q':oc=p.2:=Hd e;exact d w' (by rw [← q'];exact hocd)
theorem lu {M:Model} {A:HB} {E:Gg->Gp->Prop} {i:Nat} {x:G9} {v:V} {u:Gg} {Q:Unit->Gp->Prop} (I:Inv X pins σ H s) (hN:X.N.Nodup) (hi:X.N[i]?=some x) (hx:Loc X.env.scope x) (r:fE v u)
  (h:∀ s',Inv X pins (σ.set i (some v)) H s'->Q () s') (hf:X.fn x=true∨X.env.scope.names.lookup x=some .local:=by first | exact .inl rfl | exact .inr rfl | assumption):wpAny M A (storeName X.env x u) Q E s :=
 tX I hN hi hx r (fun s' I' _=>h s' I') hf
theorem Inv.call' {s':Gp} {ch:List Gf} (I:Inv X pins σ H s) (ho:s'.os=s.os) (u:Un (frs X.stack) ch H H' s.heap s'.heap) (hok:HOk X.prog X.w H' s'.heap) (hg:LY s'.gens)
  (hch:∀ b∈ch,(b∈X.ex∨X.s_0.heap.objs.size<=b)/\b≠X.env.locals/\(∀ x c,X.env.cells.lookup x=some c->c≠b)/\∀ p∈X.pn++pins,p.1≠b):Inv X pins σ H' s':=by
 obtain ⟨h',g',d',t',o'⟩:=s';have e:o'=s.os:=ho;subst e;exact I.call (g':=g') (t':=t') (d':=d') u hok hg hch
end
abbrev XK:=Gg->Option Gf->Hp->Prop
abbrev St:=List (Option V)
abbrev VK:=V->Hp->Prop
abbrev TE:=St->Hp->VK->Prop
abbrev TT:=St->Hp->(Bool->Hp->Prop)->Prop
abbrev TA:=St->Hp->(List V->Hp->Prop)->Prop
structure tI where
 nx:St->Hp->Prop
 rt:VK
 bk:St->Hp->Prop:=fun _ _=>False
 ct:St->Hp->Prop:=fun _ _=>False
abbrev TS:=tI->St->Hp->Prop
def EP (X:Cx) (pins:List (Gf×Io)) (σ:St) (Q:VK) (u:Gg) (s':Gp):Prop:=∃ v H',Inv X pins σ H' s'/\fE v u/\Q v H'
def TP (X:Cx) (pins:List (Gf×Io)) (σ:St) (Q:Bool->Hp->Prop) (b:Bool) (s':Gp):Prop:=∃ H',Inv X pins σ H' s'/\Q b H'
def AP (X:Cx) (pins:List (Gf×Io)) (σ:St) (Q:List V->Hp->Prop) (us:List Gg) (s':Gp):Prop:=∃ vs H',Inv X pins σ H' s'/\fu vs us/\Q vs H'
def SP (X:Cx) (pins:List (Gf×Io)) (D:tI) (f:Flow) (s':Gp):Prop :=
 match f with
 | .next=>∃ σ' H',Inv X pins σ' H' s'/\D.nx σ' H'
 | .brk=>∃ σ' H',Inv X pins σ' H' s'/\D.bk σ' H'
 | .cont=>∃ σ' H',Inv X pins σ' H' s'/\D.ct σ' H'
 | .ret u=>∃ v σ' H',Inv X pins σ' H' s'/\fE v u/\D.rt v H'
def PE (X:Cx) (e:HM) (t:TE):Prop :=
 ∀ (pins:List (Gf×Io)) (s:Gp) (σ:St) (H:Hp) (Q:VK),Inv X pins σ H s->t σ H Q->wpAny (model X.prog X.w) X.A (eval e X.env) (EP X pins σ Q) X.xe s
def PT (X:Cx) (e:HM) (t:TT):Prop :=
 ∀ (pins:List (Gf×Io)) (s:Gp) (σ:St) (H:Hp) (Q:Bool->Hp->Prop),Inv X pins σ H s->t σ H Q->wpAny (model X.prog X.w) X.A (isTrue e X.env (eval e X.env)) (TP X pins σ Q) X.xe s
def PW (X:Cx) (e:HM) (t:TT):Prop :=
 ∀ (whole:Sem Gg) (pins:List (Gf×Io)) (s:Gp) (σ:St) (H:Hp) (Q:Bool->Hp->Prop),Inv X pins σ H s->t σ H Q->wpAny (model X.prog X.w) X.A (isTrue e X.env whole) (TP X pins σ Q) X.xe s
theorem PW.pt {X:Cx} {e:HM} {t:TT} (h:PW X e t):PT X e t:=h _
def PA (X:Cx) (es:List HM) (t:TA):Prop :=
 ∀ (pos:Kv) (pins:List (Gf×Io)) (s:Gp) (σ:St) (H:Hp) (Q:List V->Hp->Prop),Inv X pins σ H s->t σ H Q->wpAny (model X.prog X.w) X.A (spliced (backTo pos (starEach es X.env))) (AP X pins σ Q) X.xe s
def PS (X:Cx) (st:HH) (t:TS):Prop :=
 ∀ (pins:List (Gf×Io)) (s:Gp) (σ:St) (H:Hp) (D:tI),Inv X pins σ H s->t D σ H->wpAny (model X.prog X.w) X.A (exec st X.env) (SP X pins D) X.xe s
def PSs (X:Cx) (st:List HH) (t:TS):Prop :=
 ∀ (pins:List (Gf×Io)) (s:Gp) (σ:St) (H:Hp) (D:tI),Inv X pins σ H s->t D σ H->wpAny (model X.prog X.w) X.A (execs st X.env) (SP X pins D) X.xe s
theorem thn {α:Type} {t:Sem α} {Q Q':α->Gp->Prop} {M:Model} {A:HB} {E:Gg->Gp->Prop} {s:Gp} (h:wpAny M A t Q E s) (hQ:∀ a s,Q a s->Q' a s):wpAny M A t Q' E s:=Iv h hQ fun _ _ x=>x
end L2
namespace L2
open PySem PySem.Spec PyProof.Rows
section
variable {X:Cx}
def tVar (i:Nat):TE:=fun σ H Q=>∃ v,σ[i]?=some (some v)/\Q v H
def tC (v:V):TE:=fun _ H Q=>Q v H
theorem pe_var {i:Nat} {x:G9} {pos:Kv} (hN:X.N[i]?=some x) (hv:Vis X.env.scope x) (hd:(x == ("__debug__":G9))=false:=by decide) (hcd:(x == ("__classdict__":G9))=false:=by decide):PE X (.Name x pos) (tVar i):=by
 intro pins s σ H Q I h;obtain ⟨v,e,h⟩:=h;obtain ⟨m,hn,hl⟩:=I.loc;obtain ⟨u,r,l⟩:=hl i x v hN e hv;have fin:EP X pins σ Q u s:=⟨v,H,I,r,h⟩;rcases l with ⟨hk,hm⟩ | ⟨hk,c,hc,hcell⟩
 ·exact wpAny_Name (wpAny_loadName_local I.ok.kind hk hn hm fin) hd
 ·rcases hk with hk | hk
  ·exact wpAny_Name (wpAny_loadName_cell I.ok.kind hk hc hcell fin) hd
  ·exact wpAny_Name (wpAny_loadName_free I.ok.kind hk hc hcell fin hcd) hd
theorem eN {i j pos}:PE X (.Constant (.int i) j pos) (tC (.int i)):=fun _ _ _ H _ I h=>wpAny_Constant_int ⟨.int i,H,I.tok _,⟨_,rfl⟩,h⟩
theorem w9 {b j pos}:PE X (.Constant (.bool b) j pos) (tC (.bl b)):=fun _ _ _ H _ I h=>Constant_bool ⟨.bl b,H,I,rfl,h⟩
theorem mJ {j pos}:PE X (.Constant .none j pos) (tC .non):=fun _ _ _ H _ I h=>Constant_none ⟨.non,H,I,rfl,h⟩
theorem h8 {x j pos}:PE X (.Constant (.str x) j pos) (tC (.str x)):=fun _ _ _ H _ I h=>Calls.Constant_str ⟨.str x,H,I.tok _,⟨_,rfl⟩,h⟩
def Gl (X:Cx) (x:G9):Prop:=X.env.kindOf x=some .globalImplicit
theorem mh {E:Gg->Gp->Prop} {pins:List (Gf×Io)} {s:Gp} {σ:St} {H:Hp} {x:G9} {u:Gg} {pos:Kv} {Q:Gg->Gp->Prop} (I:Inv X pins σ H s) (hg:Gl X x) (hm:X.mg x=some u) (h:Q u s)
  (hd:(x == ("__debug__":G9))=false:=by decide):wpAny (model X.prog X.w) X.A (eval (.Name x pos) X.env) Q E s :=
 Calls.Name_function_global I.ok.kind hg (Calls.loadGlobal_global (by rw [I.ok.glob];exact I.mod.glob.keeps I.bk) hm h) hd
theorem oK {E:Gg->Gp->Prop} {pins:List (Gf×Io)} {s:Gp} {σ:St} {H:Hp} {x:G9} {u:Gg} {pos:Kv} {Q:Gg->Gp->Prop} (I:Inv X pins σ H s) (hg:Gl X x) (hm:X.mg x=none) (hv:bootBuiltins x=some u) (h:Q u s)
  (hn:x ≠ "__name__":=by decide) (hd:(x == ("__debug__":G9))=false:=by decide):wpAny (model X.prog X.w) X.A (eval (.Name x pos) X.env) Q E s:=by
 obtain ⟨mb,h1,h2⟩:=I.mod.blt;exact Calls.Name_function_global I.ok.kind hg (Calls.loadGlobal_builtin (by rw [I.ok.glob];exact I.mod.glob.keeps I.bk) hm (by rw [I.ok.blt];exact h1.keeps I.bk) ((h2 x hn).trans hv) h) hd
theorem vG {x:G9} {v:V} {u:Gg} {pos:Kv} (hg:Gl X x) (hm:X.mg x=some u) (r:fE v u) (hd:(x == ("__debug__":G9))=false:=by decide):PE X (.Name x pos) (tC v) :=
 fun _ _ _ H _ I h=>mh I hg hm ⟨v,H,I,r,h⟩ hd
variable {a b:HM} {ta tb:TE} {pos:Kv}
def PC (X:Cx) (op:CmpOp) (a b:HM) (t:TE):Prop :=
 ∀ (pins:List (Gf×Io)) (s:Gp) (σ:St) (H:Hp) (Q:VK),Inv X pins σ H s->t σ H Q ->
  wpAny (model X.prog X.w) X.A (eval a X.env) (fun v s₁=>wpAny (model X.prog X.w) X.A (eval b X.env) (fun u s₂=>wpAny (model X.prog X.w) X.A (compareOp op v u) (EP X pins σ Q) X.xe s₂) X.xe s₁) X.xe s
theorem DD (b:HM) {op:CmpOp} (h:op ≠ .In) (h2:op ≠ .NotIn):behindInMarks op b=false:=by
 have e1:(op == CmpOp.In)=false:=by cases op <;> first | rfl | exact absurd rfl h
 have e2:(op == CmpOp.NotIn)=false:=by cases op <;> first | rfl | exact absurd rfl h2
 cases b <;> simp [behindInMarks,e1,e2]
def tIsN (ta:TE):TE:=fun σ H Q=>ta σ H fun x H1=>Q (.bl (decide (x = .non))) H1
def tNotN (ta:TE):TE:=fun σ H Q=>ta σ H fun x H1=>Q (.bl (!decide (x = .non))) H1
theorem fE.none_iff {x:V} {v:Gg} (r:fE x v):(v == Iy)=decide (x = .non):=by
 cases x with
 | non=>cases r;rfl
 | bl _=>cases r;rfl
 | int _=>obtain ⟨t,rfl⟩:=r;rfl
 | str _=>obtain ⟨t,rfl⟩:=r;rfl
 | byt _=>obtain ⟨t,rfl⟩:=r;rfl
 | flt _=>obtain ⟨t,rfl⟩:=r;rfl
 | ref _=>cases r;rfl
 | ty _=>cases r;rfl
theorem jI {j pos'} (ha:PE X a ta):PC X .Is a (.Constant .none j pos') (tIsN ta):=by
 intro pins s σ H Q I h;refine thn (ha pins s σ H _ I h) fun v s1 ⟨x,H1,I1,r1,q1⟩=>?_
 exact Constant_none (is_none_gen ⟨.bl _,H1,I1,by rw [r1.none_iff];rfl,q1⟩)
theorem vI {j pos'} (ha:PE X a ta):PC X .IsNot a (.Constant .none j pos') (tNotN ta):=by
 intro pins s σ H Q I h;refine thn (ha pins s σ H _ I h) fun v s1 ⟨x,H1,I1,r1,q1⟩=>?_
 exact Constant_none (isnot_none_gen ⟨.bl _,H1,I1,by rw [r1.none_iff];rfl,q1⟩)
def tB (t:TE):TT:=fun σ H Q=>t σ H fun x H1=>∃ c,x = .bl c/\Q c H1
theorem gP {op:CmpOp} {t:TE} (h:PC X op a b t) (h1:behindInMarks op b=false:=by first | exact DD _ (by decide) (by decide) | rfl):PT X (.Compare a [op] [b] pos) (tB t):=by
 intro pins s σ H Q I hw;refine wpAny_isTrue_Compare1 (thn (h pins s σ H _ I hw) fun v s1 h1=>thn h1 fun u s2 h2=>thn h2 fun c s3 ⟨x,H1,I1,r1,q1⟩=>?_) h1
 obtain ⟨d,rfl,q⟩:=q1;cases r1;exact Jo ⟨H1,I1,q⟩
theorem kj {e:HM} {t:TE} (h:PE X e t) (he:∀ whole,isTrue e X.env whole=(do let v ← whole;standAt e.pos;holding [v] (truthy v)):=by intro _;rfl):PT X e (tB t):=by
 intro pins s σ H Q I hw;refine isTrue_plain (thn (h pins s σ H _ I hw) fun v s1 ⟨x,H1,I1,r1,q1⟩=>?_) (he _)
 obtain ⟨d,rfl,q⟩:=q1;cases r1;exact Jo ⟨H1,I1,q⟩
variable {tA tB':TT} {rest:List HM}
def tAnd (t u:TT):TT:=fun σ H Q=>t σ H fun c H1=>if c=true then u σ H1 Q else Q false H1
def tOr (t u:TT):TT:=fun σ H Q=>t σ H fun c H1=>if c=true then Q true H1 else u σ H1 Q
def tNot (t:TT):TT:=fun σ H Q=>t σ H fun c H1=>Q (!c) H1
theorem ny (ha:PT X a tA):PW X (.BoolOp .And [a] pos) tA:=by
 intro wh pins s σ H Q I h;refine isTrue_and (thn (ha pins s σ H Q I h) fun c s1 e=>?_)
 cases c with
 | true=>exact isTrue_and_nil e
 | false=>exact e
theorem sD (ha:PT X a tA):PW X (.BoolOp .Or [a] pos) tA:=by
 intro wh pins s σ H Q I h;refine isTrue_or (thn (ha pins s σ H Q I h) fun c s1 e=>?_)
 cases c with
 | false=>exact isTrue_or_nil e
 | true=>exact e
theorem qu (ha:PT X a tA) (hb:PW X (.BoolOp .And (b::rest) pos) tB'):PW X (.BoolOp .And (a::b::rest) pos) (tAnd tA tB'):=by
 intro wh pins s σ H Q I h;refine isTrue_and (thn (ha pins s σ H _ I h) fun c s1 ⟨H1,I1,q1⟩=>?_)
 cases c with
 | true=>exact hb wh pins s1 σ H1 Q I1 q1
 | false=>exact ⟨H1,I1,q1⟩
theorem wX (ha:PT X a tA) (hb:PW X (.BoolOp .Or (b::rest) pos) tB'):PW X (.BoolOp .Or (a::b::rest) pos) (tOr tA tB'):=by
 intro wh pins s σ H Q I h;refine isTrue_or (thn (ha pins s σ H _ I h) fun c s1 ⟨H1,I1,q1⟩=>?_)
 cases c with
 | true=>exact ⟨H1,I1,q1⟩
 | false=>exact hb wh pins s1 σ H1 Q I1 q1
theorem vC (ha:PT X a tA):PT X (.UnaryOp .Not a pos) (tNot tA):=by
 intro pins s σ H Q I h;exact isTrue_not (ha pins s σ H (fun c H1=>Q (!c) H1) I h)
def tAndV (ta tb:TE):TE:=fun σ H Q=>ta σ H fun x H1=>∃ c,x = .bl c/\if c=true then tb σ H1 Q else Q (.bl false) H1
def tOrV (ta tb:TE):TE:=fun σ H Q=>ta σ H fun x H1=>∃ c,x = .bl c/\if c=true then Q (.bl true) H1 else tb σ H1 Q
def tNotV (ta:TE):TE:=fun σ H Q=>ta σ H fun x H1=>∃ c,x = .bl c/\Q (.bl (!c)) H1
theorem mI {op} {t:TE} (h:PE X a t):PE X (.BoolOp op [a] pos) t:=fun pins s σ H Q I hw=>BoolOp_one (h pins s σ H Q I hw)
theorem sE (ha:PE X a ta) (hb:PE X (.BoolOp .And (b::rest) pos) tb):PE X (.BoolOp .And (a::b::rest) pos) (tAndV ta tb):=by
 intro pins s σ H Q I h;refine BoolOp_and (thn (ha pins s σ H _ I h) fun v s1 ⟨x,H1,I1,r1,q1⟩=>?_)
 obtain ⟨c,rfl,q1⟩:=q1;cases r1;refine Jo ?_;cases c with
 | true=>exact hb pins s1 σ H1 Q I1 q1
 | false=>exact ⟨.bl false,H1,I1,rfl,q1⟩
theorem CT (ha:PE X a ta) (hb:PE X (.BoolOp .Or (b::rest) pos) tb):PE X (.BoolOp .Or (a::b::rest) pos) (tOrV ta tb):=by
 intro pins s σ H Q I h;refine BoolOp_or (thn (ha pins s σ H _ I h) fun v s1 ⟨x,H1,I1,r1,q1⟩=>?_)
 obtain ⟨c,rfl,q1⟩:=q1;cases r1;refine Jo ?_;cases c with
 | false=>exact hb pins s1 σ H1 Q I1 q1
 | true=>exact ⟨.bl true,H1,I1,rfl,q1⟩
theorem pe_not (ha:PE X a ta):PE X (.UnaryOp .Not a pos) (tNotV ta):=by
 intro pins s σ H Q I h;refine UnaryOp_ (thn (ha pins s σ H _ I h) fun v s1 ⟨x,H1,I1,r1,q1⟩=>?_)
 obtain ⟨c,rfl,q1⟩:=q1;cases r1;exact not_of (Jo ⟨.bl (!c),H1,I1,rfl,q1⟩)
def tIf (t:TT) (ta tb:TE):TE:=fun σ H Q=>t σ H fun c H1=>if c=true then ta σ H1 Q else tb σ H1 Q
theorem ko {c:HM} (hc:PT X c tA) (ha:PE X a ta) (hb:PE X b tb):PE X (.IfExp c a b pos) (tIf tA ta tb):=by
 intro pins s σ H Q I h;refine wpAny_IfExp (thn (hc pins s σ H _ I h) fun d s1 ⟨H1,I1,q1⟩=>?_)
 cases d with
 | true=>exact ha pins s1 σ H1 Q I1 q1
 | false=>exact hb pins s1 σ H1 Q I1 q1
end
end L2
namespace L2
open PySem PySem.Spec PyProof.Rows
def SqL (K:Gh) (H:Hp) (a:Gf) (xs:List V):Prop :=
 Rd H a (.lst xs) ∨
  ∃ (o:Io) (its:Array Gg) (n:Nat),K.lookup a=some o/\o.cls = .type "list" /\ o.dict=none/\o.data = .seq its n/\its.size<=sizeLine/\fu xs its.toList
def SqT (K:Gh) (H:Hp) (a:Gf) (xs:List V):Prop :=
 Rd H a (.tup xs) ∨
  ∃ (o:Io) (its:Array Gg) (n:Nat),K.lookup a=some o/\o.cls = .type "tuple" /\ o.data = .seq its n/\its.size<=sizeLine/\fu xs its.toList
def absV:Gg->Option V
 | .none=>some .non
 | .bool b=>some (.bl b)
 | .int i _=>some (.int i)
 | .str x _=>some (.str x)
 | .bytes b _=>some (.byt b)
 | .float b _=>some (.flt b)
 | .ref a=>some (.ref a)
 | .type n=>some (.ty n)
 | _=>none
theorem fE.abs {x:V} {u:Gg} (r:fE x u):absV u=some x:=by
 cases x with
 | non=>cases r;rfl
 | bl _=>cases r;rfl
 | int _=>obtain ⟨t,rfl⟩:=r;rfl
 | str _=>obtain ⟨t,rfl⟩:=r;rfl
 | byt _=>obtain ⟨t,rfl⟩:=r;rfl
 | flt _=>obtain ⟨t,rfl⟩:=r;rfl
 | ref _=>cases r;rfl
 | ty _=>cases r;rfl
theorem fE.inj {x y:V} {u:Gg} (r:fE x u) (q:fE y u):x=y:=Hd (r.abs.symm.trans q.abs)
theorem fu.inj:∀ {xs ys:List V} {us:List Gg},fu xs us->fu ys us->xs=ys
 | _,_,_,.nil,.nil=>rfl
 | _,_,_,.cons r t,.cons r' t'=>by rw [r.inj r',fu.inj t t']
section
variable {X:Cx} {pins:List (Gf×Io)} {σ:St} {H:Hp} {s:Gp} {a:Gf} {xs ys:List V}
theorem SqL.of {K:Gh} (h:H a=some (.lst xs)):SqL K H a xs := .inl (.inl h)
theorem SqT.of {K:Gh} (h:H a=some (.tup xs)):SqT K H a xs := .inl (.inl h)
theorem Inv.list (I:Inv X pins σ H s) (h:SqL X.K H a xs):∃ its:List Gg,fu xs its/\PlainL s.heap a its.toArray/\xs.length<=sizeLine:=by
 rcases h with h | ⟨o,its,n,hk,hc,hd,hs,hz,r⟩
 ·obtain ⟨z,its,n,r,e⟩:=h.ok I.hok
  exact ⟨its,r,⟨_,n,e,rfl,rfl,rfl⟩,z⟩
 ·refine ⟨its.toList,r,⟨o,n,I.kIn a o hk,hc,hd,by simpa using hs⟩,?_⟩
  have e:=r.length;simp only [IC] at e;omega
theorem Inv.tuple (I:Inv X pins σ H s) (h:SqT X.K H a xs):∃ its:List Gg,fu xs its/\IsTup s.heap a its.toArray/\xs.length<=sizeLine:=by
 rcases h with h | ⟨o,its,n,hk,hc,hs,hz,r⟩
 ·obtain ⟨z,its,r,p⟩:=h.ok I.hok
  exact ⟨its,r,p,z⟩
 ·refine ⟨its.toList,r,⟨o,I.kIn a o hk,hc,n,by simpa using hs⟩,?_⟩
  have e:=r.length;simp only [IC] at e;omega
theorem Inv.list_inj (I:Inv X pins σ H s) (h:SqL X.K H a xs) (h':SqL X.K H a ys):xs=ys:=by
 obtain ⟨its,r,⟨o,n,e,_,_,d⟩,_⟩:=I.list h;obtain ⟨its',r',⟨o',n',e',_,_,d'⟩,_⟩:=I.list h';rw [e] at e';cases e';rw [d] at d';injection d' with d1 _
 have:its=its':=by simpa using congrArg Array.toList d1
 subst this;exact r.inj r'
theorem Inv.tuple_inj (I:Inv X pins σ H s) (h:SqT X.K H a xs) (h':SqT X.K H a ys):xs=ys:=by
 obtain ⟨its,r,⟨o,e,_,n,d⟩,_⟩:=I.tuple h;obtain ⟨its',r',⟨o',e',_,n',d'⟩,_⟩:=I.tuple h';rw [e] at e';cases e';rw [d] at d';injection d' with d1 _
 have:its=its':=by simpa using congrArg Array.toList d1
 subst this;exact r.inj r'
end
abbrev Cx.wish (X:Cx) (E:Gg->Gp->Prop):Cx:={ X with xe:=E }
abbrev Cx.nox (X:Cx):Cx:=X.wish fun _ _=>False
theorem Cx.Ok.wish {X:Cx} (ok:X.Ok) (E:Gg->Gp->Prop):(X.wish E).Ok :=
 ⟨ok.mod,ok.kind,ok.glob,ok.blt,ok.above,ok.inj,ok.has,ok.cab,ok.hd,ok.frames,ok.stk,ok.exf,ok.bs,ok.bsz,ok.noex,ok.exfs,ok.funs,ok.frf⟩
theorem Cx.Ok.unwish {X:Cx} {E:Gg->Gp->Prop} (ok:(X.wish E).Ok):X.Ok :=
 ⟨ok.mod,ok.kind,ok.glob,ok.blt,ok.above,ok.inj,ok.has,ok.cab,ok.hd,ok.frames,ok.stk,ok.exf,ok.bs,ok.bsz,ok.noex,ok.exfs,ok.funs,ok.frf⟩
section
variable {X:Cx} {pins:List (Gf×Io)} {σ:St} {H:Hp} {s:Gp} {E:Gg->Gp->Prop}
theorem Inv.wish (I:Inv X pins σ H s) (E:Gg->Gp->Prop):Inv (X.wish E) pins σ H s:=⟨I.ok.wish E,I.os,I.bare,I.base,I.loc,I.cell,I.free,I.freeC,I.pin,I.hok,I.len⟩
theorem Inv.unwish (I:Inv (X.wish E) pins σ H s):Inv X pins σ H s:=⟨I.ok.unwish,I.os,I.bare,I.base,I.loc,I.cell,I.free,I.freeC,I.pin,I.hok,I.len⟩
theorem SP.unwish {D:tI} {f:Flow} {s':Gp} (h:SP (X.wish E) pins D f s'):SP X pins D f s':=by
 cases f with
 | next=>obtain ⟨σ',H',I,q⟩:=h;exact ⟨σ',H',I.unwish,q⟩
 | brk=>obtain ⟨σ',H',I,q⟩:=h;exact ⟨σ',H',I.unwish,q⟩
 | cont=>obtain ⟨σ',H',I,q⟩:=h;exact ⟨σ',H',I.unwish,q⟩
 | ret u=>obtain ⟨v,σ',H',I,r,q⟩:=h;exact ⟨v,σ',H',I.unwish,r,q⟩
theorem PSs.nox {st:List HH} {t:TS} (h:PSs X.nox st t):PSs X st t:=fun pins s σ H D I hw =>
 Iv (h pins s σ H D (I.wish _) hw) (fun _ _ q=>q.unwish) fun _ _ z=>HW z
end
section
variable {X:Cx} {st:HH} {rest:List HH} {t u:TS} {e:HM} {te:TE} {pos:Kv}
def tNext:TS:=fun D σ H=>D.nx σ H
def tSeq (t u:TS):TS:=fun D σ H=>t { D with nx:=u D } σ H
theorem eY:PSs X [] tNext:=fun _ _ σ H _ I h=>Jn ⟨σ,H,I,h⟩
theorem eE (h1:PS X st t) (h2:PSs X rest u):PSs X (st::rest) (tSeq t u):=by
 intro pins s σ H D I h;refine Lr (thn (h1 pins s σ H { D with nx:=u D } I h) fun f s1 q=>?_)
 cases f with
 | next =>
  obtain ⟨σ',H',I',q⟩:=q;exact h2 pins s1 σ' H' D I' q
 | ret v=>exact q
 | brk=>exact q
 | cont=>exact q
theorem eI (h1:PS X st t):PSs X [st] t:=by
 intro pins s σ H D I h;refine Lr (thn (h1 pins s σ H D I h) fun f s1 q=>?_)
 cases f with
 | next=>exact Jn q
 | ret v=>exact q
 | brk=>exact q
 | cont=>exact q
theorem Inv.quiet {pins:List (Gf×Io)} {σ:St} {H:Hp} {s:Gp} (I:Inv X pins σ H s):interactive X.env=false:=by simp [interactive,I.ok.kind]
def tDrop (te:TE):TS:=fun D σ H=>te σ H fun _ H1=>D.nx σ H1
theorem fe (he:PE X e te) (hs:swapsWith e none pos.line X.env=pure false:=by rfl):PS X (.Expr e pos) (tDrop te):=by
 intro pins s σ H D I h;exact wpAny_Expr_any (thn (he pins s σ H _ I h) fun v s1 ⟨x,H1,I1,r1,q1⟩=>⟨σ,H1,I1,q1⟩) I.quiet hs
def tRet (te:TE):TS:=fun D σ H=>te σ H D.rt
theorem eP (he:PE X e te):PS X (.Return (some e) pos) (tRet te):=by
 intro pins s σ H D I h;exact wpAny_Return_some (thn (he pins s σ H _ I h) fun v s1 ⟨x,H1,I1,r1,q1⟩=>⟨x,σ,H1,I1,r1,q1⟩)
def tIfS (c:TT) (t u:TS):TS:=fun D σ H=>c σ H fun b H1=>if b=true then t D σ H1 else u D σ H1
theorem fF {c:HM} {a b:List HH} {tc:TT} (hc:PT X c tc) (ha:PSs X a t) (hb:PSs X b u):PS X (.If c a b pos) (tIfS tc t u):=by
 intro pins s σ H D I h;refine wpAny_If (thn (hc pins s σ H _ I h) fun d s1 ⟨H1,I1,q1⟩=>?_)
 cases d with
 | true=>exact ha pins s1 σ H1 D I1 q1
 | false=>exact hb pins s1 σ H1 D I1 q1
end
abbrev TG:=V->St->Hp->(St->Hp->Prop)->Prop
abbrev TGs:=List V->St->Hp->(St->Hp->Prop)->Prop
def PG (X:Cx) (target:HM) (t:TG):Prop :=
 ∀ (pins:List (Gf×Io)) (s:Gp) (σ:St) (H:Hp) (v:V) (u:Gg) (Q:St->Hp->Prop),Inv X pins σ H s->fE v u->t v σ H Q ->
  wpAny (model X.prog X.w) X.A (assign target X.env u) (fun _ s'=>∃ σ' H',Inv X pins σ' H' s'/\Q σ' H') X.xe s
def PGs (X:Cx) (ts:List HM) (t:TGs):Prop :=
 ∀ (pins:List (Gf×Io)) (s:Gp) (σ:St) (H:Hp) (vs:List V) (us:List Gg) (Q:St->Hp->Prop),Inv X pins σ H s->fu vs us->t vs σ H Q ->
  wpAny (model X.prog X.w) X.A (assignInOrder ((assignEach ts X.env).map (·.2)) us) (fun _ s'=>∃ σ' H',Inv X pins σ' H' s'/\Q σ' H') X.xe s
abbrev TSet:=V->V->V->Hp->(Hp->Prop)->Prop
def PSet (X:Cx) (t:TSet):Prop :=
 ∀ (pins:List (Gf×Io)) (s:Gp) (σ:St) (H:Hp) (o i v:V) (ov iv u:Gg) (Q:Hp->Prop),Inv X pins σ H s->fE o ov->fE i iv->fE v u->t o i v H Q ->
  wpAny (model X.prog X.w) X.A (setItem ov iv u) (fun _ s'=>∃ H',Inv X pins σ H' s'/\Q H') X.xe s
abbrev TIp:=V->V->Hp->VK->Prop
def PIp (X:Cx) (op:Operator) (t:TIp):Prop :=
 ∀ (pins:List (Gf×Io)) (s:Gp) (σ:St) (H:Hp) (x y:V) (v u:Gg) (Q:VK),Inv X pins σ H s->fE x v->fE y u->t x y H Q ->
  wpAny (model X.prog X.w) X.A (inplaceOp op v u) (EP X pins σ Q) X.xe s
section
variable {X:Cx} {pos:Kv}
def gName (i:Nat):TG:=fun v σ H Q=>Q (σ.set i (some v)) H
theorem eZ {i:Nat} {x:G9} (hN:X.N.Nodup) (hi:X.N[i]?=some x) (hx:Loc X.env.scope x) (hf:X.fn x=true∨X.env.scope.names.lookup x=some .local:=by first | exact .inl rfl | exact .inr rfl | assumption):PG X (.Name x pos) (gName i):=by
 intro pins s σ H v u Q I r h;exact wpAny_assign_Name (lu I hN hi hx r (fun s' I'=>⟨_,H,I',h⟩) hf)
def gNil:TGs:=fun vs σ H Q=>vs=[]/\Q σ H
def gCons (t:TG) (u:TGs):TGs:=fun vs σ H Q=>∃ v r,vs=v::r/\t v σ H fun σ' H'=>u r σ' H' Q
theorem iX:PGs X [] gNil:=by
 intro pins s σ H vs us Q I r h;obtain ⟨e,h⟩:=h;subst e;cases r;exact assignInOrder_nil ⟨σ,H,I,h⟩
theorem fw {e:HM} {es:List HM} {t:TG} {u:TGs} (h1:PG X e t) (h2:PGs X es u)
  (hs:(assignEach (e::es) X.env).map (·.2)=assign e X.env::(assignEach es X.env).map (·.2):=by rfl):PGs X (e::es) (gCons t u):=by
 intro pins s σ H vs us Q I r h;obtain ⟨v,vr,e1,h⟩:=h;subst e1;cases r with
 | cons r rr =>
  rw [hs];refine assignInOrder_cons (thn (h1 pins s σ H _ _ _ I r h) fun _ s1 ⟨σ1,H1,I1,q1⟩=>?_)
  exact h2 pins s1 σ1 H1 _ _ Q I1 rr q1
def gTup (K:Gh) (n:Nat) (t:TGs):TG:=fun v σ H Q=>∃ a xs,v = .ref a/\SqT K H a xs/\xs.length=n/\t xs σ H Q
theorem lY {es:List HM} {k:Nat} {t:TGs} {n:Nat} (hc:X.calm=true) (h:PGs X es t)
  (hn:(assignEach es X.env).length=n:=by rfl) (hst:(assignEach es X.env).findIdx? (·.1)=none:=by rfl):PG X (.Tuple es k pos) (gTup X.K n t):=by
 intro pins s σ H v u Q I r hw;obtain ⟨a,xs,e1,hq,hl,hw⟩:=hw;subst e1;cases r;obtain ⟨its,rv,ht,hz⟩:=I.tuple hq;refine assign_Tuple_tuple (I.ok.hd hc) ht (by simp [hn,← hl,rv.length]) hst fun h' hx=>?_
 have I1:Inv X pins σ H { s with heap:=h' }:=I.kept (t':=s.toks) fun b o e=>hx b o (Hu (Ha e)) e
 exact h pins _ σ H xs _ Q I1 (by simpa using rv) hw
def gSub (to ti:TE) (t:TSet):TG:=fun v σ H Q=>to σ H fun o H1=>ti σ H1 fun i H2=>t o i v H2 fun H3=>Q σ H3
theorem pg_sub {o i:HM} {to ti:TE} {t:TSet} (ho:PE X o to) (hi:PE X i ti) (hs:PSet X t)
  (ha:∀ v,assign (.Subscript o i pos) X.env v=(do
   let ov ← holding [v] (eval o X.env)
   let iv ← holding [v,ov] (eval i X.env)
   standAt pos
   holding [v,ov,iv] (setItem ov iv v)
   release [v,ov,iv] []):=by intro _;rfl):PG X (.Subscript o i pos) (gSub to ti t):=by
 intro pins s σ H v u Q I r h;rw [ha];refine Gm (Jr (thn (ho pins s σ H _ I h) fun ov s1 ⟨x,H1,I1,r1,q1⟩=>?_))
 refine Gm (Jr (thn (hi pins s1 σ H1 _ I1 q1) fun iv s2 ⟨y,H2,I2,r2,q2⟩=>?_))
 refine Gm (KH (Gm (Jr (thn (hs pins s2 σ H2 x y v ov iv u _ I2 r1 r2 r q2) fun _ s3 ⟨H3,I3,q3⟩=>?_))))
 exact wpAny_release ⟨σ,H3,I3,q3⟩
def tAsg (te:TE) (g:TG):TS:=fun D σ H=>te σ H fun x H1=>g x σ H1 D.nx
theorem ps_asg {tg e:HM} {te:TE} {g:TG} (he:PE X e te) (hg:PG X tg g) (hs:swapsWithSole [tg] e pos.line X.env=pure false:=by rfl) (hw:swappedStores [tg] e X.env=pure none:=by rfl)
  (h1:(assignEach [tg] X.env).map (·.2)=[assign tg X.env]:=by rfl):PS X (.Assign [tg] e pos) (tAsg te g):=by
 intro pins s σ H D I h;refine wpAny_Assign_stores (thn (he pins s σ H _ I h) fun v s1 ⟨x,H1,I1,r1,q1⟩=>?_) hs hw
 rw [h1];exact thn (hg pins s1 σ H1 x v _ I1 r1 q1) fun _ s2 q=>q
theorem eO {i:Nat} {x:G9} {e:HM} {te:TE} {pos':Kv} (hN:X.N.Nodup) (hi:X.N[i]?=some x) (hx:Loc X.env.scope x) (he:PE X e te) (hs:swapsWith e (some (.Name x pos')) pos.line X.env=pure false:=by rfl) (hf:X.fn x=true∨X.env.scope.names.lookup x=some .local:=by first | exact .inl rfl | exact .inr rfl | assumption) :
  PS X (.Assign [.Name x pos'] e pos) (tAsg te (gName i)):=by
 intro pins s σ H D I h;refine wpAny_Assign_Name (thn (he pins s σ H _ I h) fun v s1 ⟨y,H1,I1,r1,q1⟩=>?_) hs
 exact lu I1 hN hi hx r1 (fun s2 I2=>⟨_,H1,I2,q1⟩) hf
def tAug (i:Nat) (te:TE) (ti:TIp):TS:=fun D σ H=>∃ x,σ[i]?=some (some x)/\te σ H fun y H1=>ti x y H1 fun z H2=>D.nx (σ.set i (some z)) H2
theorem qv {i:Nat} {x:G9} {e:HM} {te:TE} {op:Operator} {ti:TIp} {pos':Kv} (hN:X.N.Nodup) (hi:X.N[i]?=some x) (hx:Loc X.env.scope x) (he:PE X e te) (ho:PIp X op ti) (hf:X.fn x=true∨X.env.scope.names.lookup x=some .local:=by first | exact .inl rfl | exact .inr rfl | assumption) :
  PS X (.AugAssign (.Name x pos') op e pos) (tAug i te ti):=by
 intro pins s σ H D I h;obtain ⟨v,e1,h⟩:=h;obtain ⟨m,hn,hl⟩:=I.loc;have vis:Vis X.env.scope x:=by rcases hx with k | k;exact .inl k;exact .inr (.inl k)
 obtain ⟨u,r,l⟩:=hl i x v hi e1 vis;refine wpAny_AugAssign_Name ?_;have go:wpAny (model X.prog X.w) X.A (eval e X.env) (fun w s₂=>wpAny (model X.prog X.w) X.A (inplaceOp op u w) (fun r s₃=>wpAny (model X.prog X.w) X.A (storeName X.env x r) (fun _=>SP X pins D .next) X.xe s₃) X.xe s₂) X.xe s:=by
  refine thn (he pins s σ H _ I h) fun w s1 ⟨y,H1,I1,r1,q1⟩=>?_
  refine thn (ho pins s1 σ H1 v y u w _ I1 r r1 q1) fun z s2 ⟨zv,H2,I2,r2,q2⟩=>?_
  exact lu I2 hN hi hx r2 (fun s3 I3=>⟨_,H2,I3,q2⟩) hf
 rcases l with ⟨hk,hm⟩ | ⟨hk,c,hc,hcell⟩
 ·exact wpAny_loadName_local I.ok.kind hk hn hm go
 ·rcases hk with hk | hk
  ·exact wpAny_loadName_cell I.ok.kind hk hc hcell go
  ·rcases hx with k | k
   ·have:X.env.scope.names.lookup x=some .free:=hk
    rw [k] at this;cases this
   ·have:X.env.scope.names.lookup x=some .free:=hk
    rw [k] at this;cases this
def ipI (f:Int->Int->Int):TIp:=fun x y H Q=>∃ i j,x = .int i/\y = .int j/\Q (.int (f i j)) H
theorem qC:PIp X .Add (ipI fun i j=>i+j):=by
 intro pins s σ H x y v u Q I r1 r2 h;obtain ⟨i,j,e1,e2,q⟩:=h;subst e1;subst e2;obtain ⟨t,rfl⟩:=r1;obtain ⟨t',rfl⟩:=r2;exact iadd_int ⟨.int _,H,I.tok _,⟨_,rfl⟩,q⟩
end
section
variable {X:Cx} {pos:Kv}
def tWhile (c:TT) (tb:TS):TS:=fun D σ H=>∃ W:Nat->St->Hp->Prop,(∃ m,W m σ H)/\∀ m σ H,W m σ H ->
 c σ H fun b H1=>if b=true then ∃ N:St->Hp->Prop,(∀ σ' H',N σ' H'->∃ m',m'<m/\W m' σ' H')/\tb { D with nx:=N,ct:=N,bk:=D.nx } σ H1 else D.nx σ H1
theorem mF {c:HM} {body:List HH} {tc:TT} {tb:TS} (hp:Ij (model X.prog X.w) X.A X.env X.xe) (hc:PT X c tc) (hb:PSs X body tb):PS X (.While c body [] pos) (tWhile tc tb):=by
 intro pins s σ H D I h;obtain ⟨W,⟨m0,w0⟩,turn⟩:=h;refine wpAny_While (codeAny_whileLoop (fun n s'=>∃ σ' H',Inv X pins σ' H' s'/\W n σ' H') ?_ m0 ⟨σ,H,I,w0⟩)
 rintro n s1 ⟨σ1,H1,I1,w1⟩
 refine JK hp (thn (hc pins s1 σ1 H1 _ I1 (turn n σ1 H1 w1)) fun b s2 ⟨H2,I2,q2⟩=>?_)
 cases b with
 | true =>
  obtain ⟨N,hN,q2⟩:=q2;rw [Ga rfl];refine JK hp (thn (hb pins s2 σ1 H2 _ I2 q2) fun f s3 q3=>?_)
  cases f with
  | next =>
   obtain ⟨σ3,H3,I3,n3⟩:=q3;obtain ⟨m',hm,w3⟩:=hN σ3 H3 n3;exact ⟨m',hm,σ3,H3,I3,w3⟩
  | cont =>
   obtain ⟨σ3,H3,I3,n3⟩:=q3;obtain ⟨m',hm,w3⟩:=hN σ3 H3 n3;exact ⟨m',hm,σ3,H3,I3,w3⟩
  | brk=>exact q3
  | ret v=>exact q3
 | false =>
  rw [F9 GI];exact Jn ⟨σ1,H2,I2,q2⟩
end
structure It where
 go:Nat->Hp->Prop
 yld:Nat->Hp->V->Hp->Prop
 stop:Nat->Hp->Prop
def tH (X:Cx) (pins:List (Gf×Io)) (H:Hp) (b:Gf):Prop :=
 H b=none/\b≠X.env.locals/\b∉X.fs/\(b∈X.ex∨X.s_0.heap.objs.size<=b)/\(∀ x c,X.env.cells.lookup x=some c->c≠b)/\∀ p∈X.pn++pins,p.1≠b
theorem Inv.fpOk {X:Cx} {pins:List (Gf×Io)} {σ:St} {H H':Hp} {s:Gp} {b:Gf} (I:Inv X pins σ H s) (hb:s.heap.objs.size<=b) (hn:H' b=none):tH X pins H' b:=by
 refine ⟨hn,KN (Ho I.lt hb),I.nofs hb,.inr (Ie I.sz hb),fun x c e z=>?_,fun p hp z=>?_⟩
 ·obtain ⟨v,q⟩:=I.cell x c e
  exact absurd (Ho q.lt (by rw [z];exact hb)) (IL _)
 ·exact absurd (Ho (Ha (I.pin p hp).1) (by rw [z];exact hb)) (IL _)
structure tR (P:Hk) (w:Hy) (K:Gh) (tg:HM) (J:It) (fp:List Gf) (it:Gf) (tn:Nat->GZ->Prop):Prop where
 mem:it∈fp
 obj:∀ i h,tn i h->∀ b∈fp,∃ o,h.get? b=some o/\∀ v,o.data ≠ .cell v
 keep:∀ i h h',tn i h->(∀ b∈fp,∀ o,h.get? b=some o->h'.get? b=some o)->tn i h'
 item:∀ (X:Cx),X.prog=P->X.w=w->X.K=K->X.calm=true->∀ (i:Nat) (pins:List (Gf×Io)) (s:Gp) (σ:St) (H:Hp) (E:Gg->Gp->Prop),Inv X pins σ H s->(∀ b∈fp,tH X pins H b)->tn i s.heap->J.go i H ->
  wpAny (model P w) X.A (pyNext (.ref it)) (fun r s1=>∃ u,r=some u /\
   wpAny (model P w) X.A (letOwnedTupleGo tg (.ref it) u) (fun _ s2=>∃ x H',Inv X pins σ H' s2/\fE x u/\J.yld i H x H'/\tn (i+1) s2.heap/\∀ b∈fp,H' b=none) E s1) E s
 done:∀ (X:Cx),X.prog=P->X.w=w->X.K=K->X.calm=true->∀ (i:Nat) (pins:List (Gf×Io)) (s:Gp) (σ:St) (H:Hp) (E:Gg->Gp->Prop),Inv X pins σ H s->(∀ b∈fp,tH X pins H b)->tn i s.heap->J.stop i H ->
  wpAny (model P w) X.A (pyNext (.ref it)) (fun r s1=>r=none/\Inv X pins σ H s1) E s
 self:∀ (A:HB) (i:Nat) (s:Gp) (Q:Gg->Gp->Prop) (E:Gg->Gp->Prop),tn i s.heap->Q (.ref it) s->wpAny (model P w) A (pyIter (.ref it)) Q E s
abbrev TI:=St->Hp->(It->Hp->Prop)->Prop
def PIE (X:Cx) (pins:List (Gf×Io)) (σ:St) (tg:HM) (R:It->Hp->Prop) (itv:Gg) (s2:Gp):Prop :=
 ∃ (it:Gf) (fp:List Gf) (tn:Nat->GZ->Prop) (J:It) (H':Hp),itv = .ref it/\Inv X pins σ H' s2/\tR X.prog X.w X.K tg J fp it tn/\tn 0 s2.heap/\(∀ b∈fp,tH X pins H' b)/\R J H'
def PI (X:Cx) (tg iter:HM) (wi:TI):Prop :=
 ∀ (pins:List (Gf×Io)) (s:Gp) (σ:St) (H:Hp) (R:It->Hp->Prop),Inv X pins σ H s->wi σ H R ->
  wpAny (model X.prog X.w) X.A (eval iter X.env) (fun v s1=>wpAny (model X.prog X.w) X.A (pyIter v) (PIE X pins σ tg R) X.xe s1) X.xe s
theorem sP {M:Model} {A:HB} {E:Gg->Gp->Prop} {s:Gp} {tg:HM} {it:Gf} {u:Gg} {o:Io} {n:String} {vs:Array Gg} {Q:Unit->Gp->Prop} (ho:s.heap.get? it=some o) (hc:o.cls = .type n) (hd:o.data = .fields vs)
  (hn:["enumerate","zip","dict_itemiterator","dict_reverseitemiterator","odict_iterator","itertools.zip_longest","itertools.pairwise"].contains n=false) (hQ:Q () s):wpAny M A (letOwnedTupleGo tg (.ref it) u) Q E s:=by
 unfold letOwnedTupleGo;cases tg <;> first
  | exact GY hQ
  | (cases u <;> first
    | exact GY hQ
    | (refine Gm (wpAny_load ho ?_);rw [hc,hd];show wpAny M A (if (["enumerate","zip","dict_itemiterator","dict_reverseitemiterator","odict_iterator","itertools.zip_longest","itertools.pairwise"].contains n && vs[0]? == some (rawInt _))=true then _ else _) Q E s;rw [F9 (by intro h;rw [hn,Bool.false_and] at h;cases h)];exact GY hQ))
def Itl (K:Gh) (a:Gf):It :=
 ⟨fun i H=>∃ xs x,SqL K H a xs/\xs[i]?=some x,fun i H x H'=>H'=H/\∀ xs,SqL K H a xs->xs[i]?=some x,fun i H=>∃ xs,SqL K H a xs/\xs.length<=i⟩
def Itt (K:Gh) (a:Gf):It :=
 ⟨fun i H=>∃ xs x,SqT K H a xs/\xs[i]?=some x,fun i H x H'=>H'=H/\∀ xs,SqT K H a xs->xs[i]?=some x,fun i H=>∃ xs,SqT K H a xs/\xs.length<=i⟩
def Itr (lo:Int) (n:Nat):It:=⟨fun i _=>i<n,fun i H x H'=>H'=H/\x = .int (lo+i),fun i _=>n<=i⟩
theorem AH {P:Hk} {w:Hy} {K:Gh} {tg:HM} (a it:Gf):tR P w K tg (Itl K a) [it] it (fun i h=>h.IsListIter it a i) where
 mem:=by simp
 obj:=fun i h st b hb=>by
  have e:b=it:=by simpa using hb
  subst e;obtain ⟨o,e,c,d⟩:=st;exact ⟨o,e,fun v z=>by rw [d] at z;cases z⟩
 keep:=fun i h h' st k=>st.at fun o e=>k it (by simp) o e
 item:=by
  intro X hP hw hK hc i pins s σ H E I hf st hg;subst hP hw hK;obtain ⟨xs,x,hq,hx⟩:=hg;obtain ⟨its,rv,p,hz⟩:=I.list hq;obtain ⟨u,hu,ru⟩:=rv.get hx;obtain ⟨f0,f1,f2,f3,f4,f5⟩:=hf it (by simp);refine wpAny_pyNext_list_item st p.isList (x:=u) (by simpa using hu) fun h' st' sb=>?_
  have I1:Inv X pins σ H { s with heap:=h' }:=I.turned (t':=s.toks) (fun b o hb e=>(sb.2 b hb).trans e) f0 f1 f3 f4 f5
  obtain ⟨o,e,c,d⟩:=id st';exact ⟨u,rfl,sP (s:={ s with heap:=h' }) e c d (by decide) ⟨x,H,I1,ru,⟨rfl,fun ys hy=>by rw [I.list_inj hy hq];exact hx⟩,st',fun b hb=>(hf b hb).1⟩⟩
 done:=by
  intro X hP hw hK hc i pins s σ H E I hf st hg;subst hP hw hK;obtain ⟨xs,hq,hx⟩:=hg;obtain ⟨its,rv,p,hz⟩:=I.list hq;obtain ⟨f0,f1,f2,f3,f4,f5⟩:=hf it (by simp);have hl:=rv.length;exact wpAny_pyNext_list_end (I.ok.hd hc) st p.isList (by simp;omega) fun h' eb=>⟨rfl,I.turned (t':=s.toks) (fun b o hb e=>eb b o hb e) f0 f1 f3 f4 f5⟩
 self:=fun _ _ _ _ _ st h=>wpAny_pyIter_listiter st h
theorem xX {P:Hk} {w:Hy} {K:Gh} {tg:HM} (a it:Gf):tR P w K tg (Itt K a) [it] it (fun i h=>h.IsTupleIter it a i) where
 mem:=by simp
 obj:=fun i h st b hb=>by
  have e:b=it:=by simpa using hb
  subst e;obtain ⟨o,e,c,d⟩:=st;exact ⟨o,e,fun v z=>by rw [d] at z;cases z⟩
 keep:=fun i h h' st k=>st.at fun o e=>k it (by simp) o e
 item:=by
  intro X hP hw hK hc i pins s σ H E I hf st hg;subst hP hw hK;obtain ⟨xs,x,hq,hx⟩:=hg;obtain ⟨its,rv,p,hz⟩:=I.tuple hq;obtain ⟨u,hu,ru⟩:=rv.get hx;obtain ⟨f0,f1,f2,f3,f4,f5⟩:=hf it (by simp);refine wpAny_pyNext_tuple_item st (show s.heap.IsTuple a its.toArray from p) (x:=u) (by simpa using hu) fun h' st' sb=>?_
  have I1:Inv X pins σ H { s with heap:=h' }:=I.turned (t':=s.toks) (fun b o hb e=>(sb.2 b hb).trans e) f0 f1 f3 f4 f5
  obtain ⟨o,e,c,d⟩:=id st';exact ⟨u,rfl,sP (s:={ s with heap:=h' }) e c d (by decide) ⟨x,H,I1,ru,⟨rfl,fun ys hy=>by rw [I.tuple_inj hy hq];exact hx⟩,st',fun b hb=>(hf b hb).1⟩⟩
 done:=by
  intro X hP hw hK hc i pins s σ H E I hf st hg;subst hP hw hK;obtain ⟨xs,hq,hx⟩:=hg;obtain ⟨its,rv,p,hz⟩:=I.tuple hq;obtain ⟨f0,f1,f2,f3,f4,f5⟩:=hf it (by simp);have hl:=rv.length;exact wpAny_pyNext_tuple_end (I.ok.hd hc) st (show s.heap.IsTuple a its.toArray from p) (by simp;omega) fun h' eb=>⟨rfl,I.turned (t':=s.toks) (fun b o hb e=>eb b o hb e) f0 f1 f3 f4 f5⟩
 self:=fun _ _ _ _ _ st h=>wpAny_pyIter_tupleiter st h
theorem xY {P:Hk} {w:Hy} {K:Gh} {tg:HM} (it:Gf) (lo:Int) (n:Nat):tR P w K tg (Itr lo n) [it] it (fun i h=>IsRangeIter h it (lo+(i:Nat)*1) ((n:Int)-(i:Nat)) 1) where
 mem:=by simp
 obj:=fun i h st b hb=>by
  have e:b=it:=by simpa using hb
  subst e;exact ⟨_,st,fun v z=>by
   have z':Data.fields _=Data.cell v:=z;cases z'⟩
 keep:=fun i h h' st k=>k it (by simp) _ st
 item:=by
  intro X hP hw hK hc i pins s σ H E I hf st hg;subst hP hw hK;obtain ⟨f0,f1,f2,f3,f4,f5⟩:=hf it (by simp);have W:=Walks.range (prog:=X.prog) (w:=X.w) (I.ok.hd hc) it lo 1 n;refine W.item i s _ _ hg st fun v h' tk hv st' kk=>?_
  obtain ⟨t,rfl⟩:=hv;have I1:Inv X pins σ H { s with heap:=h',toks:=tk }:=I.turned (fun b o hb e=>kk b o (by simpa using hb) e) f0 f1 f3 f4 f5
  refine ⟨_,rfl,sP (s:={ s with heap:=h',toks:=tk }) (n := "range_iterator") st' rfl rfl (by decide) ⟨.int (lo+i),H,I1,⟨t,?_⟩,⟨rfl,rfl⟩,st',fun b hb=>(hf b hb).1⟩⟩
  rw [Int.mul_one]
 done:=by
  intro X hP hw hK hc i pins s σ H E I hf st hg;subst hP hw hK;obtain ⟨f0,f1,f2,f3,f4,f5⟩:=hf it (by simp);exact wpAny_pyNext_range_end (I.ok.hd hc) st (by have:n<=i:=hg;omega) fun h' eb=>⟨rfl,I.turned (t':=s.toks) (fun b o hb e=>eb b o hb e) f0 f1 f3 f4 f5⟩
 self:=fun _ _ _ _ _ st h=>wpAny_pyIter_rangeiter st h
end L2
namespace L2
open PySem PySem.Spec PyProof.Rows
section
variable {X:Cx} {tg:HM}
def iList (K:Gh) (tl:TE):TI:=fun σ H R=>tl σ H fun x H1=>∃ a,x = .ref a/\(∃ xs,SqL K H1 a xs)/\R (Itl K a) H1
def iTup (K:Gh) (tl:TE):TI:=fun σ H R=>tl σ H fun x H1=>∃ a,x = .ref a/\(∃ xs,SqT K H1 a xs)/\R (Itt K a) H1
theorem gr {l:HM} {tl:TE} (hl:PE X l tl):PI X tg l (iList X.K tl):=by
 intro pins s σ H R I h;refine thn (hl pins s σ H _ I h) fun v s1 ⟨x,H1,I1,r1,q1⟩=>?_
 obtain ⟨a,e,⟨xs,hq⟩,q⟩:=q1;subst e;cases r1;obtain ⟨its,rv,p,hz⟩:=I1.list hq;refine wpAny_pyIter_list p.isList ?_;refine ⟨s1.heap.objs.size,[s1.heap.objs.size],_,_,H1,rfl,I1.kept (t':=s1.toks) fun b o e=>Gx _ e,AH a _,⟨_,Hi _ rfl,rfl,rfl⟩,fun b hb=>?_,q⟩
 have e:b=s1.heap.objs.size:=by simpa using hb
 subst e;exact I1.fpOk (Go _) (I1.hok.fresh (Go _))
theorem vD {l:HM} {tl:TE} (hl:PE X l tl):PI X tg l (iTup X.K tl):=by
 intro pins s σ H R I h;refine thn (hl pins s σ H _ I h) fun v s1 ⟨x,H1,I1,r1,q1⟩=>?_
 obtain ⟨a,e,⟨xs,hq⟩,q⟩:=q1;subst e;cases r1;obtain ⟨its,rv,p,hz⟩:=I1.tuple hq;refine wpAny_pyIter_tuple (show s1.heap.IsTuple a its.toArray from p) ?_;refine ⟨s1.heap.objs.size,[s1.heap.objs.size],_,_,H1,rfl,I1.kept (t':=s1.toks) fun b o e=>Gx _ e,xX a _,⟨_,Hi _ rfl,rfl,rfl⟩,fun b hb=>?_,q⟩
 have e:b=s1.heap.objs.size:=by simpa using hb
 subst e;exact I1.fpOk (Go _) (I1.hok.fresh (Go _))
theorem CJ {pins:List (Gf×Io)} {σ:St} {H:Hp} {s:Gp} {R:It->Hp->Prop} {E:Gg->Gp->Prop} {lo hi:Int} {t u v:Tok} {tk:Nat} (I:Inv X pins σ H s) (h1 : -(2 ^ 62)<=lo) (h2:lo<2 ^ 62) (h3 : -(2 ^ 62)<=hi) (h4:hi<2 ^ 62)
  (q:R (Itr lo (hi-lo).toNat) H):wpAny (model X.prog X.w) X.A (pyIter (.ref s.heap.objs.size)) (PIE X pins σ tg R) E { s with heap:=s.heap.push { cls := .type "range",data := .fields #[.int lo t,.int hi u,.int 1 v] },toks:=tk }:=by
 refine wpAny_pyIter_range (IsRange.new ..) (small_one h1 h2 h3 h4) ?_;have I1:Inv X pins σ H { s with heap:=s.heap.push { cls := .type "range",data := .fields #[.int lo t,.int hi u,.int 1 v] },toks:=tk }:=I.kept fun b o e=>Gx _ e
 refine ⟨(s.heap.push { cls := .type "range",data := .fields #[.int lo t,.int hi u,.int 1 v] }).objs.size,[(s.heap.push { cls := .type "range",data := .fields #[.int lo t,.int hi u,.int 1 v] }).objs.size],_,_,H,rfl,
  I1.kept (t':=tk) fun b o e=>Gx _ e,xY _ lo (hi-lo).toNat,?_,fun b hb=>?_,q⟩
 ·have e1:lo+((0:Nat):Int)*1=lo:=by simp
  have e2:(((hi-lo).toNat:Nat):Int)-((0:Nat):Int)=KG lo hi 1:=by rw [rangeSize_one];split <;> omega
  show IsRangeIter _ _ (lo+((0:Nat):Int)*1) ((((hi-lo).toNat:Nat):Int)-((0:Nat):Int)) 1;rw [e1,e2];exact Hi _ rfl
 ·have e:b=(s.heap.push { cls := .type "range",data := .fields #[.int lo t,.int hi u,.int 1 v] }).objs.size:=by simpa using hb
  subst e;exact I1.fpOk (Go _) (I1.hok.fresh (Go _))
def iRng1 (ta:TA):TI:=fun σ H R=>ta σ H fun vs H1=>∃ j:Int,vs=[.int j] /\ -(2 ^ 62)<=j/\j<2 ^ 62/\R (Itr 0 j.toNat) H1
theorem A0 {a:HM} {ta:TA} {p pos:Kv} (hg:Gl X "range") (hm:X.mg "range"=none) (ha:PA X [a] ta) (hs:starEach [a] X.env=[(false,eval a X.env)]:=by rfl):PI X tg (.Call (.Name "range" p) [a] [] pos) (iRng1 ta):=by
 intro pins s σ H R I h;refine Call_ (oK I hg hm boot_range (IV (thn (ha pos pins s σ H _ I h) fun us s1 ⟨vs,H1,I1,r1,q1⟩=>?_) hs rfl))
 obtain ⟨j,e,q1,q2,q⟩:=q1;subst e;cases r1 with
 | cons r rr =>
  cases rr;obtain ⟨t,rfl⟩:=r;exact call_range_1 (CJ I1 (by omega) (by omega) q1 q2 (by simpa using q))
def tFor (wi:TI) (g:TG) (tb:TS):TS:=fun D σ H=>wi σ H fun J H1=>∃ W:Nat->Nat->St->Hp->Prop,(∃ m,W 0 m σ H1)/\∀ i m σ H,W i m σ H ->
 (J.stop i H/\D.nx σ H)∨(J.go i H/\∃ N:St->Hp->Prop,(∀ σ' H',N σ' H'->∃ m',m'<m/\W (i+1) m' σ' H')/\∀ x H',J.yld i H x H'->g x σ H' fun σ2 H2=>tb { D with nx:=N,ct:=N,bk:=D.nx } σ2 H2)
def pinsAt (fp:List Gf) (h:GZ):List (Gf×Io):=fp.filterMap fun b=>(h.get? b).map fun o=>(b,o)
theorem oF {fp:List Gf} {h:GZ} {b:Gf} {o:Io} (hb:b∈fp) (e:h.get? b=some o):(b,o)∈pinsAt fp h:=List.mem_filterMap.mpr ⟨b,hb,by rw [e];rfl⟩
theorem Bh {fp:List Gf} {h:GZ} {p:Gf×Io} (hp:p∈pinsAt fp h):p.1∈fp/\h.get? p.1=some p.2:=by
 obtain ⟨b,hb,e⟩:=List.mem_filterMap.mp hp;cases q:h.get? b with
 | none=>rw [q] at e;cases e
 | some o =>
  rw [q] at e;have e':(b,o)=p:=Hd e;subst e';exact ⟨hb,q⟩
theorem Inv.pinned {pins:List (Gf×Io)} {σ:St} {H:Hp} {s:Gp} {fp:List Gf} (I:Inv X pins σ H s) (hf:∀ b∈fp,tH X pins H b) (ho:∀ b∈fp,∃ o,s.heap.get? b=some o/\∀ v,o.data ≠ .cell v):Inv X (pins++pinsAt fp s.heap) σ H s :=
 I.pins_of fun p hp=>(HS.mp hp).elim (fun z=>I.pin p (HY _ z)) fun z=>by
  obtain ⟨hb,e⟩:=Bh z;obtain ⟨f0,f1,f2,_⟩:=hf p.1 hb;obtain ⟨o,e',d⟩:=ho p.1 hb;rw [e] at e';cases e';exact ⟨e,f0,f1,f2,d⟩
theorem Inv.unpinned {pins pl:List (Gf×Io)} {σ:St} {H:Hp} {s:Gp} (I:Inv X (pins++pl) σ H s):Inv X pins σ H s:=I.pins_of fun p hp=>I.pin p (HY _ (Lw _ hp))
theorem gQ {iter:HM} {body:List HH} {wi:TI} {g:TG} {tb:TS} {pos:Kv} (hp:Ij (model X.prog X.w) X.A X.env X.xe) (hc:X.calm=true) (hi:PI X tg iter wi) (hg:PG X tg g) (hb:PSs X body tb)
  (hs:∀ x,foldedSetIterable iter X.env x=pure x:=by intro _;rfl):PS X (.For tg iter body [] pos) (tFor wi g tb):=by
 intro pins s σ H D I h;refine wpAny_For (thn (hi pins s σ H _ I h) fun v s1 h1=>thn h1 fun itv s2 h2=>?_) hs
 obtain ⟨it,fp,tn,J,H2,e,I2,T,st2,f2,W,⟨m0,w0⟩,turn⟩:=h2;subst e;have stat:∀ {H':Hp},(∀ b∈fp,H' b=none)->∀ b∈fp,tH X pins H' b:=fun hn b hb=>⟨hn b hb,(f2 b hb).2⟩
 refine codeAny_forLoop_any (fun n s'=>∃ i σ' H',Inv X pins σ' H' s'/\tn i s'.heap/\(∀ b∈fp,H' b=none)/\W i n σ' H') ?_ m0 ⟨0,σ,H2,I2,st2,fun b hb=>(f2 b hb).1,w0⟩
 rintro n s3 ⟨i,σ3,H3,I3,st3,fr3,w3⟩
 rcases turn i n σ3 H3 w3 with ⟨stop,qn⟩ | ⟨go,N,hN,step⟩
 ·refine JK hp (thn (T.done X rfl rfl rfl hc i pins s3 σ3 H3 X.xe I3 (stat fr3) st3 stop) fun r s4 ⟨hr,I4⟩=>?_)
  subst hr;exact Jn ⟨σ3,H3,I4,qn⟩
 ·refine JK hp (thn (T.item X rfl rfl rfl hc i pins s3 σ3 H3 X.xe I3 (stat fr3) st3 go) fun r s4 ⟨u,hr,h4⟩=>?_)
  subst hr;refine JK hp (thn h4 fun _ s5 ⟨x,H5,I5,r5,y5,st5,fr5⟩=>?_)
  have I5':=I5.pinned (stat fr5) (T.obj _ _ st5);refine JK hp (thn (hg _ s5 σ3 H5 x u _ I5' r5 (step x H5 y5)) fun _ s6 ⟨σ6,H6,I6,q6⟩=>?_)
  refine JK hp (thn (hb _ s6 σ6 H6 _ I6 q6) fun f s7 q7=>?_)
  have again:∀ {σ7:St} {H7:Hp},Inv X (pins++pinsAt fp s5.heap) σ7 H7 s7->N σ7 H7->∃ m,m<n/\∃ i σ' H',Inv X pins σ' H' s7/\tn i s7.heap/\(∀ b∈fp,H' b=none)/\W i m σ' H':=fun {σ7 H7} I7 n7=>by
   obtain ⟨m',hm,w7⟩:=hN σ7 H7 n7;refine ⟨m',hm,i+1,σ7,H7,I7.unpinned,T.keep _ _ _ st5 fun b hb o e=>(I7.pin (b,o) (HY _ (HY _ (oF hb e)))).1,fun b hb=>?_,w7⟩
   obtain ⟨o,e,d⟩:=T.obj _ _ st5 b hb;exact (I7.pin (b,o) (HY _ (HY _ (oF hb e)))).2.1
  cases f with
  | next=>obtain ⟨σ7,H7,I7,n7⟩:=q7;exact again I7 n7
  | cont=>obtain ⟨σ7,H7,I7,n7⟩:=q7;exact again I7 n7
  | brk=>obtain ⟨σ7,H7,I7,q7⟩:=q7;exact ⟨σ7,H7,I7.unpinned,q7⟩
  | ret v=>obtain ⟨x7,σ7,H7,I7,r7,q7⟩:=q7;exact ⟨x7,σ7,H7,I7.unpinned,r7,q7⟩
end
theorem gW {K:Gh} {a:Gf} {xs:List V} {g:TG} {tb:TS} {D:tI} {σ:St} {H:Hp} (Pv:Nat->St->Hp->Prop) (h0:Pv 0 σ H) (hl:∀ i σ H,i<=xs.length->Pv i σ H->SqL K H a xs)
  (hs:∀ i x σ H,xs[i]?=some x->Pv i σ H->g x σ H fun σ2 H2=>tb { D with nx:=Pv (i+1),ct:=Pv (i+1),bk:=D.nx } σ2 H2) (hd:∀ σ H,Pv xs.length σ H->D.nx σ H) :
  ∃ W:Nat->Nat->St->Hp->Prop,(∃ m,W 0 m σ H)/\∀ i m σ H,W i m σ H ->
   ((Itl K a).stop i H/\D.nx σ H)∨((Itl K a).go i H/\∃ N:St->Hp->Prop,(∀ σ' H',N σ' H'->∃ m',m'<m/\W (i+1) m' σ' H')/\∀ x H',(Itl K a).yld i H x H'->g x σ H' fun σ2 H2=>tb { D with nx:=N,ct:=N,bk:=D.nx } σ2 H2):=by
 refine ⟨fun i m σ H=>m=xs.length-i/\i<=xs.length/\Pv i σ H,⟨xs.length,by simp,G5 _,h0⟩,?_⟩
 rintro i m σ H ⟨rfl,hi,p⟩
 have q:=hl i σ H hi p;by_cases hlt:i<xs.length
 ·refine .inr ⟨⟨xs,xs[i],q,by simp [hlt]⟩,Pv (i+1),fun σ' H' p'=>⟨xs.length-(i+1),by omega,rfl,hlt,p'⟩,fun x H' y=>?_⟩
  obtain ⟨e,y⟩:=y;subst e;exact hs i x σ _ (y xs q) p
 ·have e:i=xs.length:=by omega
  subst e;exact .inl ⟨⟨xs,q,Go _⟩,hd σ H p⟩
theorem Aq {K:Gh} {a:Gf} {xs:List V} {g:TG} {tb:TS} {D:tI} {σ:St} {H:Hp} (Pv:Nat->St->Hp->Prop) (h0:Pv 0 σ H) (hl:∀ i σ H,i<=xs.length->Pv i σ H->SqT K H a xs)
  (hs:∀ i x σ H,xs[i]?=some x->Pv i σ H->g x σ H fun σ2 H2=>tb { D with nx:=Pv (i+1),ct:=Pv (i+1),bk:=D.nx } σ2 H2) (hd:∀ σ H,Pv xs.length σ H->D.nx σ H) :
  ∃ W:Nat->Nat->St->Hp->Prop,(∃ m,W 0 m σ H)/\∀ i m σ H,W i m σ H ->
   ((Itt K a).stop i H/\D.nx σ H)∨((Itt K a).go i H/\∃ N:St->Hp->Prop,(∀ σ' H',N σ' H'->∃ m',m'<m/\W (i+1) m' σ' H')/\∀ x H',(Itt K a).yld i H x H'->g x σ H' fun σ2 H2=>tb { D with nx:=N,ct:=N,bk:=D.nx } σ2 H2):=by
 refine ⟨fun i m σ H=>m=xs.length-i/\i<=xs.length/\Pv i σ H,⟨xs.length,by simp,G5 _,h0⟩,?_⟩
 rintro i m σ H ⟨rfl,hi,p⟩
 have q:=hl i σ H hi p;by_cases hlt:i<xs.length
 ·refine .inr ⟨⟨xs,xs[i],q,by simp [hlt]⟩,Pv (i+1),fun σ' H' p'=>⟨xs.length-(i+1),by omega,rfl,hlt,p'⟩,fun x H' y=>?_⟩
  obtain ⟨e,y⟩:=y;subst e;exact hs i x σ _ (y xs q) p
 ·have e:i=xs.length:=by omega
  subst e;exact .inl ⟨⟨xs,q,Go _⟩,hd σ H p⟩
end L2
namespace L2
open PySem PySem.Spec PyProof.Rows
abbrev R2:=V->V->Hp->VK->Prop
def OpR (X:Cx) (f:Gg->Gg->Sem Gg) (r:R2):Prop :=
 ∀ (pins:List (Gf×Io)) (s:Gp) (σ:St) (H:Hp) (x y:V) (v u:Gg) (Q:VK),Inv X pins σ H s->fE x v->fE y u->r x y H Q ->
  wpAny (model X.prog X.w) X.A (f v u) (EP X pins σ Q) X.xe s
def UnR (X:Cx) (f:Gg->Sem Gg) (r:V->Hp->VK->Prop):Prop :=
 ∀ (pins:List (Gf×Io)) (s:Gp) (σ:St) (H:Hp) (x:V) (v:Gg) (Q:VK),Inv X pins σ H s->fE x v->r x H Q ->
  wpAny (model X.prog X.w) X.A (f v) (EP X pins σ Q) X.xe s
def mo (X:Cx) (f:Gg) (r:List V->Hp->VK->Prop):Prop :=
 ∀ (pins:List (Gf×Io)) (s:Gp) (σ:St) (H:Hp) (xs:List V) (us:List Gg) (Q:VK),Inv X pins σ H s->fu xs us->r xs H Q ->
  wpAny (model X.prog X.w) X.A (call f us) (EP X pins σ Q) X.xe s
def tOp (r:R2) (ta tb:TE):TE:=fun σ H Q=>ta σ H fun x H1=>tb σ H1 fun y H2=>r x y H2 Q
def tUn (r:V->Hp->VK->Prop) (ta:TE):TE:=fun σ H Q=>ta σ H fun x H1=>r x H1 Q
def rI (C:Int->Int->Prop) (g:Int->Int->V):R2:=fun x y H Q=>∃ i j,x = .int i/\y = .int j/\C i j/\Q (g i j) H
def rI0 (g:Int->Int->V):R2:=fun x y H Q=>∃ i j,x = .int i/\y = .int j/\Q (g i j) H
def rU (g:Int->V):V->Hp->VK->Prop:=fun x H Q=>∃ i,x = .int i/\Q (g i) H
section
variable {X:Cx} {a b c:HM} {ta tb tc:TE} {pos:Kv}
theorem binT (ha:PE X a ta) (hb:PE X b tb) {pins:List (Gf×Io)} {s:Gp} {σ:St} {H:Hp} {R:V->V->Hp->Prop} (I:Inv X pins σ H s)
  (h:ta σ H fun x H1=>tb σ H1 fun y H2=>R x y H2) {Q:Gg->Gp->Prop} {f:Gg->Gg->Sem Gg}
  (hf:∀ v u s2 x y H2,Inv X pins σ H2 s2->fE x v->fE y u->R x y H2->wpAny (model X.prog X.w) X.A (f v u) Q X.xe s2) :
  wpAny (model X.prog X.w) X.A (eval a X.env) (fun v s₁=>wpAny (model X.prog X.w) X.A (eval b X.env) (fun u s₂=>wpAny (model X.prog X.w) X.A (f v u) Q X.xe s₂) X.xe s₁) X.xe s:=by
 refine thn (ha pins s σ H _ I h) fun v s1 ⟨x,H1,I1,r1,q1⟩=>?_
 refine thn (hb pins s1 σ H1 _ I1 q1) fun u s2 ⟨y,H2,I2,r2,q2⟩=>?_
 exact hf v u s2 x y H2 I2 r1 r2 q2
theorem fA {op:Operator} {r:R2} (ho:OpR X (binaryOp op) r) (ha:PE X a ta) (hb:PE X b tb):PE X (.BinOp a op b pos) (tOp r ta tb):=by
 intro pins s σ H Q I h;exact wpAny_BinOp (binT ha hb I h fun v u s2 x y H2 I2 rx ry q=>ho pins s2 σ H2 x y v u Q I2 rx ry q)
theorem uC {op:UnaryOp} {r:V->Hp->VK->Prop} (ho:UnR X (unaryOp op) r) (ha:PE X a ta):PE X (.UnaryOp op a pos) (tUn r ta):=by
 intro pins s σ H Q I h;exact UnaryOp_ (thn (ha pins s σ H _ I h) fun v s1 ⟨x,H1,I1,r1,q1⟩=>ho pins s1 σ H1 x v Q I1 r1 q1)
theorem opI {f:Gg->Gg->Sem Gg} {C:Int->Int->Prop} {g:Int->Int->Int}
  (rule:∀ (i j:Int) (t u:Tok) (s:Gp) (Q:Gg->Gp->Prop) (E:Gg->Gp->Prop),C i j->Q (.int (g i j) s.toks) { s with toks:=s.toks+1 }->wpAny (model X.prog X.w) X.A (f (.int i t) (.int j u)) Q E s) :
  OpR X f (rI C fun i j => .int (g i j)):=by
 intro pins s σ H x y v u Q I rx ry h;obtain ⟨i,j,rfl,rfl,hc,q⟩:=h;obtain ⟨t,rfl⟩:=rx;obtain ⟨t',rfl⟩:=ry;exact rule i j t t' s _ _ hc ⟨.int (g i j),H,I.tok _,⟨_,rfl⟩,q⟩
theorem EZ {f:Gg->Gg->Sem Gg} {g:Int->Int->Int}
  (rule:∀ (i j:Int) (t u:Tok) (s:Gp) (Q:Gg->Gp->Prop) (E:Gg->Gp->Prop),Q (.int (g i j) s.toks) { s with toks:=s.toks+1 }->wpAny (model X.prog X.w) X.A (f (.int i t) (.int j u)) Q E s) :
  OpR X f (rI0 fun i j => .int (g i j)):=by
 intro pins s σ H x y v u Q I rx ry h;obtain ⟨i,j,rfl,rfl,q⟩:=h;obtain ⟨t,rfl⟩:=rx;obtain ⟨t',rfl⟩:=ry;exact rule i j t t' s _ _ ⟨.int (g i j),H,I.tok _,⟨_,rfl⟩,q⟩
theorem E1 {f:Gg->Gg->Sem Gg} {g:Int->Int->Bool}
  (rule:∀ (i j:Int) (t u:Tok) (s:Gp) (Q:Gg->Gp->Prop) (E:Gg->Gp->Prop),Q (.bool (g i j)) s->wpAny (model X.prog X.w) X.A (f (.int i t) (.int j u)) Q E s) :
  OpR X f (rI0 fun i j => .bl (g i j)):=by
 intro pins s σ H x y v u Q I rx ry h;obtain ⟨i,j,rfl,rfl,q⟩:=h;obtain ⟨t,rfl⟩:=rx;obtain ⟨t',rfl⟩:=ry;exact rule i j t t' s _ _ ⟨.bl (g i j),H,I,rfl,q⟩
def CMul (i j:Int):Prop:=(-(2 ^ 64)<i/\i<2 ^ 64)∨(-(2 ^ 64)<j/\j<2 ^ 64)
theorem CMul.ok {i j:Int} (h:CMul i j):IntMulOk i j:=by
 rcases h with ⟨h1,h2⟩ | ⟨h1,h2⟩
 ·exact .of_left (intBits_le_64 h1 h2)
 ·exact .of_right (intBits_le_64 h1 h2)
theorem xW (k:Nat):(0:Int)<=2 ^ k:=by
 rw [Jp];exact JA _
theorem gx:OpR X (binaryOp .Add) (rI0 fun i j => .int (i+j)):=EZ fun _ _ _ _ _ _ _ q=>add_int q
theorem iG:OpR X (binaryOp .Sub) (rI0 fun i j => .int (i-j)):=EZ fun _ _ _ _ _ _ _ q=>sub_int q
theorem op_mul:OpR X (binaryOp .Mult) (rI CMul fun i j => .int (i*j)):=opI fun _ _ _ _ _ _ _ hc q=>mul_int q hc.ok
theorem C2:OpR X (binaryOp .RShift) (rI (fun _ j=>0<=j) fun i j => .int (i / 2 ^ j.toNat)):=opI fun i j _ _ _ _ _ hc q =>
 rshift_int hc (by rw [Int.fdiv_eq_ediv_of_nonneg i (xW _)];exact q)
theorem vL:OpR X (binaryOp .BitAnd) (rI0 fun i j => .int (Ii i j)):=EZ fun _ _ _ _ _ _ _ q=>and_int q
theorem FY:OpR X (binaryOp .BitOr) (rI0 fun i j => .int (JR i j)):=EZ fun _ _ _ _ _ _ _ q=>or_int q
theorem unI {f:Gg->Sem Gg} {g:Int->Int}
  (rule:∀ (i:Int) (t:Tok) (s:Gp) (Q:Gg->Gp->Prop) (E:Gg->Gp->Prop),Q (.int (g i) s.toks) { s with toks:=s.toks+1 }->wpAny (model X.prog X.w) X.A (f (.int i t)) Q E s) :
  UnR X f (rU fun i => .int (g i)):=by
 intro pins s σ H x v Q I rx h;obtain ⟨i,rfl,q⟩:=h;obtain ⟨t,rfl⟩:=rx;exact rule i t s _ _ ⟨.int (g i),H,I.tok _,⟨_,rfl⟩,q⟩
theorem qf:UnR X (unaryOp .USub) (rU fun i => .int (-i)):=unI fun _ _ _ _ _ q=>neg_int q
end
def scal:V->V->Bool
 | .non,.non=>true | .non,.int _=>true | .int _,.non=>true | .non,.bl _=>true | .bl _,.non=>true | .non,.str _=>true | .str _,.non=>true
 | .int _,.int _=>true | .bl _,.bl _=>true | .str _,.str _=>true | .byt _,.byt _=>true
 | .int _,.str _=>true | .str _,.int _=>true | .bl _,.str _=>true | .str _,.bl _=>true
 | _,_=>false
def rEq:R2:=fun x y H Q=>scal x y=true/\Q (.bl (decide (x=y))) H
def rNe:R2:=fun x y H Q=>scal x y=true/\Q (.bl (!decide (x=y))) H
theorem Ay {i j:Int}:decide (V.int i=V.int j)=(i == j):=by
 rw [Kz];simp
theorem D5 {i j:Bool}:decide (V.bl i=V.bl j)=(i == j):=by
 rw [Kz];simp
theorem Ax {i j:G9}:decide (V.str i=V.str j)=(i == j):=by
 rw [Kz];simp
theorem Az {i j:Array UInt8}:decide (V.byt i=V.byt j)=(i.toList == j.toList):=by
 rw [Kz];cases i;cases j;simp
section
variable {X:Cx} {a b c:HM} {ta tb tc:TE} {pos:Kv}
theorem fU {pins:List (Gf×Io)} {σ:St} {H:Hp} {s:Gp} {Q:VK} {k k':Bool} (I:Inv X pins σ H s) (q:Q (.bl k) H) (e:k=k'):EP X pins σ Q (.bool k') s:=by
 subst e;exact ⟨.bl k,H,I,rfl,q⟩
theorem io:OpR X (compareOp .Eq) rEq:=by
 intro pins s σ H x y v u Q I rx ry h;obtain ⟨hs,q⟩:=h;cases x with
 | non =>
  cases rx;cases y with
  | non=>cases ry;exact PySem.EqNone.eq_none_none (fU I q (by simp))
  | bl j=>cases ry;exact PySem.EqNone.eq_none_bool (fU I q (by simp))
  | int j=>obtain ⟨t',rfl⟩:=ry;exact PySem.EqNone.eq_none_int (fU I q (by simp))
  | str j=>obtain ⟨t',rfl⟩:=ry;exact PySem.EqNone.eq_none_str (fU I q (by simp))
  | _=>exact absurd (show false=true from hs) GI
 | bl i =>
  cases rx;cases y with
  | non=>cases ry;exact PySem.EqNone.eq_bool_none (fU I q (by simp))
  | bl j=>cases ry;exact eq_bool (fU I q D5)
  | str j=>obtain ⟨t',rfl⟩:=ry;exact PySem.EqMixed.eq_bool_str (fU I q (by simp))
  | _=>exact absurd (show false=true from hs) GI
 | int i =>
  obtain ⟨t,rfl⟩:=rx;cases y with
  | non=>cases ry;exact PySem.EqNone.eq_int_none (fU I q (by simp))
  | int j=>obtain ⟨t',rfl⟩:=ry;exact eq_int (fU I q Ay)
  | str j=>obtain ⟨t',rfl⟩:=ry;exact PySem.EqMixed.eq_int_str (fU I q (by simp))
  | _=>exact absurd (show false=true from hs) GI
 | str i =>
  obtain ⟨t,rfl⟩:=rx;cases y with
  | non=>cases ry;exact PySem.EqNone.eq_str_none (fU I q (by simp))
  | bl j=>cases ry;exact PySem.EqMixed.eq_str_bool (fU I q (by simp))
  | int j=>obtain ⟨t',rfl⟩:=ry;exact PySem.EqMixed.eq_str_int (fU I q (by simp))
  | str j=>obtain ⟨t',rfl⟩:=ry;exact eq_str (fU I q Ax)
  | _=>exact absurd (show false=true from hs) GI
 | byt i =>
  obtain ⟨t,rfl⟩:=rx;cases y with
  | byt j=>obtain ⟨t',rfl⟩:=ry;exact PySem.W.eq_bytes (fU I q Az)
  | _=>exact absurd (show false=true from hs) GI
 | _=>cases y <;> exact absurd (show false=true from hs) GI
theorem op_ne:OpR X (compareOp .NotEq) rNe:=by
 intro pins s σ H x y v u Q I rx ry h;obtain ⟨hs,q⟩:=h;cases x with
 | non =>
  cases rx;cases y with
  | non=>cases ry;exact PySem.EqNone.ne_none_none (fU I q (by simp))
  | bl j=>cases ry;exact PySem.EqNone.ne_none_bool (fU I q (by simp))
  | int j=>obtain ⟨t',rfl⟩:=ry;exact PySem.EqNone.ne_none_int (fU I q (by simp))
  | str j=>obtain ⟨t',rfl⟩:=ry;exact PySem.EqNone.ne_none_str (fU I q (by simp))
  | _=>exact absurd (show false=true from hs) GI
 | bl i =>
  cases rx;cases y with
  | non=>cases ry;exact PySem.EqNone.ne_bool_none (fU I q (by simp))
  | bl j=>cases ry;exact ne_bool (fU I q (congrArg not D5))
  | str j=>obtain ⟨t',rfl⟩:=ry;exact PySem.EqMixed.ne_bool_str (fU I q (by simp))
  | _=>exact absurd (show false=true from hs) GI
 | int i =>
  obtain ⟨t,rfl⟩:=rx;cases y with
  | non=>cases ry;exact PySem.EqNone.ne_int_none (fU I q (by simp))
  | int j=>obtain ⟨t',rfl⟩:=ry;exact ne_int (fU I q (congrArg not Ay))
  | str j=>obtain ⟨t',rfl⟩:=ry;exact PySem.EqMixed.ne_int_str (fU I q (by simp))
  | _=>exact absurd (show false=true from hs) GI
 | str i =>
  obtain ⟨t,rfl⟩:=rx;cases y with
  | non=>cases ry;exact PySem.EqNone.ne_str_none (fU I q (by simp))
  | bl j=>cases ry;exact PySem.EqMixed.ne_str_bool (fU I q (by simp))
  | int j=>obtain ⟨t',rfl⟩:=ry;exact PySem.EqMixed.ne_str_int (fU I q (by simp))
  | str j=>obtain ⟨t',rfl⟩:=ry;exact ne_str (fU I q (congrArg not Ax))
  | _=>exact absurd (show false=true from hs) GI
 | byt i =>
  obtain ⟨t,rfl⟩:=rx;cases y with
  | byt j=>obtain ⟨t',rfl⟩:=ry;exact PySem.W.ne_bytes (fU I q (congrArg not Az))
  | _=>exact absurd (show false=true from hs) GI
 | _=>cases y <;> exact absurd (show false=true from hs) GI
theorem qP:OpR X (compareOp .Lt) (rI0 fun i j => .bl (decide (i<j))):=E1 fun _ _ _ _ _ _ _ q=>lt_int q
theorem FZ:OpR X (compareOp .LtE) (rI0 fun i j => .bl (decide (i<=j))):=E1 fun _ _ _ _ _ _ _ q=>le_int q
theorem jg:OpR X (compareOp .Gt) (rI0 fun i j => .bl (decide (j<i))):=E1 fun _ _ _ _ _ _ _ q=>gt_int q
theorem C4:OpR X (compareOp .GtE) (rI0 fun i j => .bl (decide (j<=i))):=E1 fun _ _ _ _ _ _ _ q=>ge_int q
theorem fb (b:HM) {op:CmpOp} (h:op ≠ .In:=by decide) (h2:op ≠ .NotIn:=by decide):behindInMarks op b=false:=by
 have e1:(op == CmpOp.In)=false:=by cases op <;> first | rfl | exact absurd rfl h
 have e2:(op == CmpOp.NotIn)=false:=by cases op <;> first | rfl | exact absurd rfl h2
 cases b <;> simp [behindInMarks,e1,e2]
theorem gC {op:CmpOp} {r:R2} (ho:OpR X (compareOp op) r) (ha:PE X a ta) (hb:PE X b tb) (hm:behindInMarks op b=false):PE X (.Compare a [op] [b] pos) (tOp r ta tb):=by
 intro pins s σ H Q I h;exact wpAny_Compare1 (binT ha hb I h fun v u s2 x y H2 I2 rx ry q=>ho pins s2 σ H2 x y v u Q I2 rx ry q) hm
def tTest (t:TE):TT:=fun σ H Q=>t σ H fun x H'=>∃ k,x = .bl k/\Q k H'
theorem eX {op:CmpOp} {r:R2} (ho:OpR X (compareOp op) r) (ha:PE X a ta) (hb:PE X b tb) (hm:behindInMarks op b=false):PT X (.Compare a [op] [b] pos) (tTest (tOp r ta tb)):=by
 intro pins s σ H Q I h;refine wpAny_isTrue_Compare1 (thn (ha pins s σ H _ I h) fun v s1 ⟨x,H1,I1,r1,q1⟩=>thn (hb pins s1 σ H1 _ I1 q1) fun u s2 ⟨y,H2,I2,r2,q2⟩ =>
  thn (ho pins s2 σ H2 x y v u _ I2 r1 r2 q2) fun c s3 ⟨z,H3,I3,r3,k,e,q3⟩=>?_) hm
 subst e;cases r3;exact Jo ⟨H3,I3,q3⟩
theorem line63:(sizeLine:Nat)<2 ^ 63:=by rw [Hj];decide
theorem vals1 {x:V} {us:List Gg} (r:fu [x] us):∃ u,us=[u]/\fE x u:=by
 cases r with
 | cons r1 r2=>cases r2;exact ⟨_,rfl,r1⟩
theorem BL {x y:V} {us:List Gg} (r:fu [x,y] us):∃ u w',us=[u,w']/\fE x u/\fE y w':=by
 cases r with
 | cons r1 r2 =>
  cases r2 with
  | cons r3 r4=>cases r4;exact ⟨_,_,rfl,r1,r3⟩
theorem BB (hc:X.calm=true):mo X (.builtin "max") (fun xs H Q=>∃ i j,xs=[.int i,.int j]/\Q (.int (if j>i then j else i)) H):=by
 intro pins s σ H xs us Q I r h;obtain ⟨i,j,rfl,q⟩:=h;obtain ⟨u,w',rfl,⟨t,rfl⟩,⟨t',rfl⟩⟩:=BL r;refine max_two_ints (I.ok.hd hc) fun h' tk k=>⟨_,H,I.kept k,?_,q⟩
 by_cases hj:j>i
 ·rw [Ga hj,Ga hj];exact ⟨_,rfl⟩
 ·rw [F9 hj,F9 hj];exact ⟨_,rfl⟩
theorem BA (hc:X.calm=true):mo X (.builtin "min") (fun xs H Q=>∃ i j,xs=[.int i,.int j]/\Q (.int (if j<i then j else i)) H):=by
 intro pins s σ H xs us Q I r h;obtain ⟨i,j,rfl,q⟩:=h;obtain ⟨u,w',rfl,⟨t,rfl⟩,⟨t',rfl⟩⟩:=BL r;refine min_two_ints (I.ok.hd hc) fun h' tk k=>⟨_,H,I.kept k,?_,q⟩
 by_cases hj:j<i
 ·rw [Ga hj,Ga hj];exact ⟨_,rfl⟩
 ·rw [F9 hj,F9 hj];exact ⟨_,rfl⟩
end
end L2
namespace L2
open PySem PySem.Spec PyProof.Rows
structure yX (h:GZ) (x dx C:Gf) (mA:G9->Option Gg):Prop where
 obj:h.get? x=some (Ji C dx)
 ns:h.Ns1 dx mA
 ne:dx≠x
theorem Bn {h:GZ} {dx:Gf} {mA:G9->Option Gg} (n:h.Ns1 dx mA):∃ od,h.get? dx=some od/\∀ name,Lg name od=some (mA name):=by
 obtain ⟨o,es,ep,ho,hd,hk,_,hm⟩:=n;refine ⟨o,ho,fun name=>?_⟩
 have e:=hm name;unfold nsFind findBy at e;rw [← Array.find?_toList] at e;unfold Lg;rw [hd];dsimp only;split
 ·rename_i y q
  rw [q] at e;exact congrArg some e
 ·rename_i q
  rw [q] at e;have a:es.toList.any (·.refKey)=false:=by
   rw [List.any_eq_false];intro y hy;obtain ⟨z,t,hkey⟩:=hk y (Array.mem_toList_iff.mp hy);simp [IZ.refKey,hkey]
  have a':¬ es.toList.any (·.refKey)=true:=by rw [a];exact GI
  rw [F9 a'];exact congrArg some e
theorem yX.look {h:GZ} {x dx C:Gf} {mA:G9->Option Gg} (I:yX h x dx C mA):∃ od,PySem.W.InstAt h x (Ji C dx) C (some od)/\∀ name,Lg name od=some (mA name) :=
 let ⟨od,ho,hl⟩:=Bn I.ns
 ⟨od,⟨I.obj,rfl,rfl,ho⟩,hl⟩
section
variable {prog:Hk} {w:Hy} {A:HB} {E:Gg->Gp->Prop} {s:Gp} {K:Gh} {x dx C f:Gf} {mA:G9->Option Gg} {name:G9} {v:Gg}
theorem Fy {expr:Bool} {Q:Gg->Gp->Prop} (X:K.In s.heap) (I:yX s.heap x dx C mA) (hg:Ka K C name=true) (hh:KO K C=true)
  (ha:II K (.ref C) name=some none) (hv:mA name=some v) (hv':PySem.W.handedIn v=true) (h:Q v { s with toks:=s.toks+1 }) :
  wpAny (model prog w) A (getAttr (.ref x) name expr) Q E s:=by
 obtain ⟨od,J,hl⟩:=I.look;exact PySem.W.get_value X J (Lu hg).1 (PySem.W.findObj_own hh ha rfl (by rw [hl,hv])) hv' h
theorem DS {pl:Sem Bool} {Q:Gg×List Gg->Gp->Prop} (X:K.In s.heap) (I:yX s.heap x dx C mA) (hg:Ka K C name=true)
  (hf:II K (.ref C) name=some (some (.ref f))) (ht:Kt K (.ref f)=true) (hv:mA name=none) (h:Q (.ref f,[.ref x]) s) :
  wpAny (model prog w) A (getMethod (.ref x) name pl) Q E s:=by
 obtain ⟨od,J,hl⟩:=I.look;exact PySem.W.method_fn X J (Lu hg).1 (Lu hg).2 hf (beq_iff_eq.mp ht) (by show (Lg name od).map (·.isSome)=some false;rw [hl,hv];rfl) h
theorem Ez {ns:List G9} {Q:Unit->Gp->Prop} (X:K.In s.heap) (I:yX s.heap x dx C mA)
  (hs:II K (.ref C) "__setattr__"=some (some (.builtin "object.__setattr__"))) (hp:LI K C=true) (ht:LZ K C name=some none) (hh:KO K C=true)
  (hw:KB mA ns) (hsz:ns.length<=sizeLine)
  (h:∀ h',yX h' x dx C (fun y=>if y=name then some v else mA y)->J8 dx s.heap h'->Q () { s with heap:=h',toks:=s.toks+2 }) :
  wpAny (model prog w) A (setAttr (.ref x) name v) Q E s:=by
 obtain ⟨od,J,hl⟩:=I.look;refine PySem.W.set_plain X J hs (PySem.W.osa_open (s:={ s with toks:=s.toks+1 }) (r:=none) X J hp ht fun b=>?_)
 obtain ⟨cd,hc,hd'⟩:=PySem.W.any_some hh;have hx:s.heap.get? x=some ⟨.ref C,some dx,.plain,#[]⟩:=I.obj;refine Gm (GY (Gm (Gm (wpAny_loadPart hx (Gm (PySem.W.Looks.here (s:={ s with toks:=s.toks+1 }) (PySem.W.looks_clsIn X hc) ?_))))))
 rw [hd'];refine GY (a:=some dx) (Gm (GY (Gm ?_)));refine wpAny_nsSet1 (s:={ s with toks:=s.toks+1 }) I.ns fun h' hn2 hs2=>?_
 obtain ⟨oD,esD,epD,hoD,hdD,hcD⟩:=hn2.count (KB.cons name v hw);refine Gm (wpAny_lookBehind hoD (by rw [hdD];exact pastItsLine_dict (Ie hcD (by rw [GQ];omega))) ?_);exact GY (h _ ⟨(hs2.2 _ (HA I.ne)).trans I.obj,hn2,I.ne⟩ hs2)
theorem DJ {R:Result->Gp->Prop} {vs:List Gg} {kw:List (G9×Gg)} (X:K.In s.heap) (hm:Kl K C=true)
  (hi:II K (.ref C) "__init__"=some (some (.ref f))) (hf:PySem.W.typeIn K (.ref f)=some (.type "function"))
  (h:codeAny (model prog w) (A.under (.builtin "type.__call__" ⟨.ref C::vs,kw⟩)) (.call (.ref f) ⟨.ref (s.heap.objs.size+1)::vs,kw⟩) (PySem.W.InitBack (s.heap.objs.size+1) R)
   { s with heap:=(s.heap.push IJ).push (Ji C s.heap.objs.size) }) :
  codeAny (model prog w) A (.call (.ref C) ⟨vs,kw⟩) R s:=by
 obtain ⟨hh,g,d,t,os⟩:=s;exact PySem.W.make_core (PySem.W.makes_of X hm) (PySem.W.looks_findIn X hi) (fun self=>PySem.W.bind_fn X self hf) (.inl rfl) h
end
def putF (f:G9) (v:V):List (G9×V)->List (G9×V)
 | []=>[(f,v)]
 | (g,x)::r=>if g=f then (g,v)::r else (g,x)::putF f v r
theorem eJ (f g:G9) (v:V):∀ fs:List (G9×V),(putF f v fs).lookup g=if g=f then some v else fs.lookup g
 | []=>by
  show J4 g [(f,v)]=_;by_cases h:g=f
  ·have hb:(g == f)=true:=beq_iff_eq.mpr h
   simp only [J4,hb,Ga h]
  ·have hb:(g == f)=false:=beq_eq_false_iff_ne.mpr h
   simp only [J4,hb,F9 h]
 | (k,x)::r=>by
  have ih:=eJ f g v r;rw [show putF f v ((k,x)::r)=(if k=f then (k,v)::r else (k,x)::putF f v r) from rfl]
  by_cases hk:k=f
  ·rw [Ga hk]
   by_cases h:g=k
   ·have hb:(g == k)=true:=beq_iff_eq.mpr h
    simp only [J4,hb,Ga (h.trans hk)]
   ·have hb:(g == k)=false:=beq_eq_false_iff_ne.mpr h
    simp only [J4,hb,F9 (fun e:g=f=>h (e.trans hk.symm))]
  ·rw [F9 hk]
   by_cases h:g=k
   ·have hb:(g == k)=true:=beq_iff_eq.mpr h
    simp only [J4,hb,F9 (fun e:g=f=>hk (h.symm.trans e))]
   ·have hb:(g == k)=false:=beq_eq_false_iff_ne.mpr h
    simp only [J4,hb];exact ih
theorem qz (f:G9) (v:V):∀ fs:List (G9×V),f∈(putF f v fs).map (·.1)/\∀ g,g∈fs.map (·.1)->g∈(putF f v fs).map (·.1)
 | []=>⟨by simp [putF],fun g h=>by simp at h⟩
 | (k,x)::r=>by
  obtain ⟨i1,i2⟩:=qz f v r;rw [show putF f v ((k,x)::r)=(if k=f then (k,v)::r else (k,x)::putF f v r) from rfl]
  by_cases hk:k=f
  ·rw [Ga hk]
   subst hk;exact ⟨by simp,fun g h=>by simpa using h⟩
  ·rw [F9 hk]
   refine ⟨?_,fun g h=>?_⟩
   ·rw [Hs]
    exact G3 _ i1
   ·rw [Hs] at h ⊢
    rcases Gu.mp h with e | e
    ·exact Gu.mpr (.inl e)
    ·exact G3 _ (i2 g e)
theorem qQ (f:G9) (v:V):∀ fs:List (G9×V),(putF f v fs).length<=fs.length+1
 | []=>by simp [putF]
 | (k,x)::r=>by
  have ih:=qQ f v r;rw [show putF f v ((k,x)::r)=(if k=f then (k,v)::r else (k,x)::putF f v r) from rfl]
  by_cases hk:k=f
  ·rw [Ga hk,GQ,GQ];omega
  ·rw [F9 hk,GQ,GQ];omega
theorem jB.some_of {v:V} {o:Option Gg} (r:jB (some v) o):∃ u,o=some u/\fE v u:=by
 cases o with
 | none=>exact (show False from r).elim
 | some u=>exact ⟨u,rfl,r⟩
theorem jB.none_of {o:Option Gg} (r:jB none o):o=none:=by
 cases o with
 | none=>rfl
 | some u=>exact (show False from r).elim
theorem uN {v:V} {u:Gg} (r:fE v u):PySem.W.handedIn u=true:=by
 cases v with
 | non=>cases (show u=Iy from r);rfl
 | bl b=>cases (show u=Gg.bool b from r);rfl
 | int i=>obtain ⟨t,e⟩:=(show ∃ t,u=K4 i t from r);cases e;rfl
 | str x=>obtain ⟨t,e⟩:=(show ∃ t,u=Gg.str x t from r);cases e;rfl
 | byt b=>obtain ⟨t,e⟩:=(show ∃ t,u=Gg.bytes b t from r);cases e;rfl
 | flt b=>obtain ⟨t,e⟩:=(show ∃ t,u=Gg.float b t from r);cases e;rfl
 | ref a=>cases (show u=Hq a from r);rfl
 | ty n=>cases (show u=J0 n from r);rfl
section
variable {P:Hk} {w:Hy} {H H':Hp} {h h':GZ} {a C dx:Gf} {fs fs':List (G9×V)}
theorem vN (hok:HOk P w H h) (e:H a=some (.ins C dx fs)):∃ mA,yX h a dx C mA/\(∀ f,jB (fs.lookup f) (mA f))/\KB mA (fs.map (·.1))/\fs.length<=1000/\H dx=some (.own a):=by
 obtain ⟨d,z,ne,ob,mA,n,r,q⟩:=(show f8 P w H h a (.ins C dx fs) from hok a _ e);exact ⟨mA,⟨ob,n,ne⟩,r,q,z,d⟩
end
structure Cls (K:Gh) (C:Gf):Prop where
 pg:Ka K C G9.empty=true
 hd:KO K C=true
 po:LI K C=true
 sa:II K (.ref C) "__setattr__"=some (some (.builtin "object.__setattr__"))
theorem Cls.get {K:Gh} {C:Gf} (c:Cls K C) (f:G9):Ka K C f=true:=c.pg
def fq (K:Gh) (C:Gf) (f:G9):Prop:=II K (.ref C) f=some none
theorem fq.taker {K:Gh} {C:Gf} {f:G9} (n:fq K C f):LZ K C f=some none:=by
 unfold LZ;rw [show II K (.ref C) f=some none from n];rfl
structure Ei (K:Gh) (C:Gf) (m:G9) (f:Gf):Prop where
 at_:II K (.ref C) m=some (some (.ref f))
 fn:Kt K (.ref f)=true
 kp:HL K (.ref f)=true
section
variable {X:Cx} {pins:List (Gf×Io)} {σ:St} {H:Hp} {s:Gp} {a C dx:Gf} {fs:List (G9×V)} {f:G9} {v:V} {A:HB} {E:Gg->Gp->Prop}
theorem sR {b:Bool} {Q:Gg->Gp->Prop} (I:Inv X pins σ H s) (e:H a=some (.ins C dx fs)) (c:Cls X.K C) (n:fq X.K C f) (l:fs.lookup f=some v)
  (h:∀ u s',Inv X pins σ H s'->fE v u->Q u s'):wpAny (model X.prog X.w) A (getAttr (.ref a) f b) Q E s:=by
 obtain ⟨mA,O,r,_,_,_⟩:=vN I.hok e;obtain ⟨u,hu,ru⟩:=jB.some_of (v:=v) (o:=mA f) (by rw [← l];exact r f);exact Fy I.kIn O (c.get f) c.hd n hu (uN ru) (h u _ (I.tok _) ru)
theorem sQ {m:G9} {g:Gf} {pl:Sem Bool} {Q:Gg×List Gg->Gp->Prop} (I:Inv X pins σ H s) (e:H a=some (.ins C dx fs)) (c:Cls X.K C) (k:Ei X.K C m g) (l:fs.lookup m=none)
  (h:Q (.ref g,[.ref a]) s):wpAny (model X.prog X.w) A (getMethod (.ref a) m pl) Q E s:=by
 obtain ⟨mA,O,r,_,_,_⟩:=vN I.hok e;have hn:mA m=none:=jB.none_of (by rw [← l];exact r m);exact DS I.kIn O (c.get m) k.at_ k.fn hn h
theorem sj {y:V} {u:Gg} {Q:Unit->Gp->Prop} (I:Inv X pins σ H s) (e:H a=some (.ins C dx fs)) (c:Cls X.K C) (n:fq X.K C f) (hl:fs.length<1000) (ry:fE y u)
  (h:∀ s',Inv X pins σ (upd H a (.ins C dx (putF f y fs))) s'->Q () s'):wpAny (model X.prog X.w) A (setAttr (.ref a) f u) Q E s:=by
 obtain ⟨mA,O,r,wi,_,ho⟩:=vN I.hok e;have hz:(fs.map (·.1)).length<=sizeLine:=by rw [Ge,Hj];omega
 refine Ez I.kIn O c.sa c.po n.taker c.hd wi hz fun h' O' sb=>h _ ?_
 have hd:∃ o,h'.get? dx=some o:=let ⟨o,_,_,e',_⟩:=O'.ns;⟨o,e'⟩
 refine I.write (x:=a) (e:=dx) (by rw [e];exact JN) (.inr ho) (fun b q hb z=>(sb.2 b hb).trans z) hd ?_
 refine ⟨by rw [eK O.ne];exact ho,?_,O.ne,O'.obj,_,O'.ns,fun g=>?_,fun g hg=>?_⟩
 ·have:=qQ f y fs;omega
 ·show jB ((putF f y fs).lookup g) (if g=f then some u else mA g)
  rw [eJ];by_cases q:g=f
  ·rw [Ga q,Ga q];exact ry
  ·rw [F9 q,F9 q];exact r g
 ·by_cases q:g=f
  ·rw [q];exact (qz f y fs).1
  ·refine (qz f y fs).2 g (wi g fun z=>hg ?_)
   show (if g=f then some u else mA g)=none
   rw [F9 q];exact z
theorem Inv.made (I:Inv X pins σ H s):Inv X pins σ (upd (upd H s.heap.objs.size (.own (s.heap.objs.size+1))) (s.heap.objs.size+1) (.ins C s.heap.objs.size []))
  { s with heap:=(s.heap.push IJ).push (Ji C s.heap.objs.size) }:=by
 have e1:(s.heap.push IJ).get? s.heap.objs.size=some IJ:=Hi s.heap rfl;have e2:((s.heap.push IJ).push (Ji C s.heap.objs.size)).get? (s.heap.objs.size+1)=some (Ji C s.heap.objs.size):=by
  have:=Hi (s.heap.push IJ) (o:=Ji C s.heap.objs.size) rfl;rwa [Iz] at this
 have e3:(s.heap.push IJ).Ns s.heap.objs.size (fun _=>none):=⟨IJ,#[],_,e1,rfl,(fun e he=>absurd he (by simp)),fun _=>rfl⟩
 have I1:=I.laid (a:=s.heap.objs.size) (o := .own (s.heap.objs.size+1)) (h':=s.heap.push IJ) (t':=s.toks) (fun b u q=>Gx _ q) (Go _) ⟨_,e1⟩
 refine I1.laid (a:=s.heap.objs.size+1) (o := .ins C s.heap.objs.size []) (t':=s.toks) (fun b u q=>Gx _ q) (Lk (Iz _ _)) ?_
 have ne:s.heap.objs.size≠s.heap.objs.size+1:=Hu (Mb _);refine ⟨by rw [eK ne,eC],G5 _,ne,e2,fun _=>none,(GZ.Ns1.of_empty e3).at fun o q=>Gx _ q,fun _=>JN,fun y hy=>absurd rfl hy⟩
theorem AB {prog:Hk} {w:Hy} {env:L5} {e:HM} {f:G9} {pos:Kv} {s:Gp} {Q:Gg->Gp->Prop} (hb:attributeBase e f env (eval e env)=eval e env)
  (h:wpAny (model prog w) A (eval e env) (fun o s₁=>wpAny (model prog w) A (getAttr o f true) Q E s₁) E s):wpAny (model prog w) A (eval (.Attribute e f pos) env) Q E s :=
 Attribute_any_ h (by rw [arm_eval_Attribute,hb])
end
def tFld (K:Gh) (ta:TE) (f:G9):TE:=fun σ H Q=>ta σ H fun x H1=>∃ a C dx fs v,x = .ref a/\H1 a=some (.ins C dx fs)/\Cls K C/\fq K C f/\fs.lookup f=some v/\Q v H1
def sFld (K:Gh) (ta tv:TE) (f:G9):TS:=fun D σ H=>tv σ H fun y H1=>ta σ H1 fun x H2=>∃ a C dx fs,x = .ref a/\H2 a=some (.ins C dx fs)/\Cls K C/\fq K C f/\fs.length<1000 /\
 D.nx σ (upd H2 a (.ins C dx (putF f y fs)))
def InOp (X:Cx) (op:Operator) (rd:V->V->Hp->VK->Prop):Prop :=
 ∀ (pins:List (Gf×Io)) (s:Gp) (σ:St) (H:Hp) (x y:V) (u v:Gg) (Q:VK),Inv X pins σ H s->fE x u->fE y v->rd x y H Q->wpAny (model X.prog X.w) X.A (inplaceOp op u v) (EP X pins σ Q) X.xe s
def EH (K:Gh) (ta tv:TE) (rd:V->V->Hp->VK->Prop) (f:G9):TS:=fun D σ H=>ta σ H fun x H1=>∃ a C dx fs v,x = .ref a/\H1 a=some (.ins C dx fs)/\Cls K C/\fq K C f/\fs.lookup f=some v /\
 tv σ H1 fun y H2=>rd v y H2 fun z H3=>∃ dx' fs',H3 a=some (.ins C dx' fs')/\fs'.length<1000/\D.nx σ (upd H3 a (.ins C dx' (putF f z fs')))
section
variable {X:Cx} {o e value:HM} {f:G9} {pos pos' tpos:Kv} {ta tv:TE}
theorem eQ (he:PE X e ta) (hb:attributeBase e f X.env (eval e X.env)=eval e X.env):PE X (.Attribute e f pos) (tFld X.K ta f):=by
 intro pins s σ H Q I h;refine AB hb (thn (he pins s σ H _ I h) fun u s1 ⟨x,H1,I1,rx,a,C,dx,fs,v,ex,ea,c,n,l,q⟩=>?_)
 subst ex;obtain rfl:u=Hq a:=rx;exact sR I1 ea c n l fun u' s2 I2 ru=>⟨v,H1,I2,ru,q⟩
theorem gw (ha:PE X o ta) (hv:PE X value tv) (hs:swapsWith value (some (.Attribute o f pos')) pos.line X.env=pure false):PS X (.Assign [.Attribute o f pos'] value pos) (sFld X.K ta tv f):=by
 intro pins s σ H D I h;refine Kr (thn (hv pins s σ H _ I h) fun u s1 ⟨y,H1,I1,ry,q⟩=>thn (ha pins s1 σ H1 _ I1 q) fun ov s2 ⟨x,H2,I2,rx,a,C,dx,fs,ex,ea,c,n,l,q2⟩=>?_) hs
 subst ex;obtain rfl:ov=Hq a:=rx;exact sj I2 ea c n l ry fun s3 I3=>⟨σ,_,I3,q2⟩
theorem nz {op:Operator} {rd:V->V->Hp->VK->Prop} (ha:PE X o ta) (hv:PE X value tv) (hop:InOp X op rd):PS X (.AugAssign (.Attribute o f tpos) op value pos) (EH X.K ta tv rd f):=by
 intro pins s σ H D I h;refine wpAny_AugAssign_AttributeAny (thn (ha pins s σ H _ I h) fun ov s1 ⟨x,H1,I1,rx,a,C,dx,fs,v,ex,ea,c,n,l,q⟩=>?_)
 subst ex;obtain rfl:ov=Hq a:=rx;refine sR I1 ea c n l fun u s2 I2 ru=>thn (hv pins s2 σ H1 _ I2 q) fun w3 s3 ⟨y,H2,I3,ry,q3⟩=>thn (hop pins s3 σ H2 v y u w3 _ I3 ru ry q3) fun w4 s4 ⟨z,H3,I4,rz,dx',fs',ea',l',q4⟩=>?_
 exact sj I4 ea' c n l' rz fun s5 I5=>⟨σ,_,I5,q4⟩
def rAdd:V->V->Hp->VK->Prop:=fun x y H Q=>∃ i j,x = .int i/\y = .int j/\Q (.int (i+j)) H
theorem vO:InOp X .Add rAdd:=by
 rintro pins s σ H x y u v Q I rx ry ⟨i,j,rfl,rfl,q⟩
 obtain ⟨t,rfl⟩:=(show ∃ t,u=K4 i t from rx);obtain ⟨t',rfl⟩:=(show ∃ t',v=K4 j t' from ry);exact PyProof.Rows.iadd_int ⟨.int (i+j),H,I.tok _,⟨_,rfl⟩,q⟩
end
section
variable {X:Cx} {pins:List (Gf×Io)} {σ:St} {H:Hp} {s:Gp} {A:HB} {E:Gg->Gp->Prop} {Q:Gg->Gp->Prop} {c:Gg} {b:Bool}
end
end L2
namespace L2
open PySem PySem.Spec PyProof.Rows
structure fi (k:Nat) (A:HB):Prop where
 hd:10<=k->A.handled=none
 dp:A.depth+3*k+5<recursionLimit
 un:A.units+16*k+200<cLine
theorem fi.mono {j k:Nat} {A:HB} (r:fi k A) (h:j<=k):fi j A:=⟨fun z=>r.hd (Ie z h),by have:=r.dp;omega,by have:=r.un;omega⟩
theorem fi.deeper {k:Nat} {A:HB} (r:fi (k+1) A) (env:L5):fi k (A.deeper env) :=
 ⟨fun z=>r.hd (L4 z),by have:=r.dp;show A.depth+1+3*k+5<_;omega,by have:=r.un;show A.units+3+16*k+200<_;omega⟩
theorem yI {A:HB} {C:Gf} {us:List Gg} {kw:List (G9×Gg)}:(A.under (.builtin "type.__call__" ⟨.ref C::us,kw⟩)).depth=A.depth+1:=by
 first | rfl | simp [HB.under,Code.weight,Code.isCreation,Code.isGuard,Code.isCaller,Code.frames,Code.isFrame,guardIds]
theorem yH {A:HB} {C:Gf} {us:List Gg} {kw:List (G9×Gg)}:(A.under (.builtin "type.__call__" ⟨.ref C::us,kw⟩)).units=A.units+1:=by
 first | rfl | simp [HB.under,Code.cUnits,Code.frames,Code.isFrame]
theorem fi.make {k:Nat} {A:HB} (r:fi (k+1) A) (C:Gf) (us:List Gg) (kw:List (G9×Gg)):fi k (A.under (.builtin "type.__call__" ⟨.ref C::us,kw⟩)) :=
 ⟨fun z=>r.hd (L4 z),by have:=r.dp;rw [yI];omega,by have:=r.un;rw [yH];omega⟩
theorem fi.depth {k:Nat} {A:HB} (r:fi k A):A.depth<recursionLimit:=by have:=r.dp;omega
theorem fi.units {k:Nat} {A:HB} (r:fi k A):A.units+64<cLine:=by have:=r.un;omega
def wv:TA:=fun _ H Q=>Q [] H
def BQ (ta:TE) (tr:TA):TA:=fun σ H Q=>ta σ H fun x H1=>tr σ H1 fun xs H2=>Q (x::xs) H2
section
variable {X:Cx} {e:HM} {es:List HM} {te:TE} {t:TA} {pos:Kv}
theorem eF:PA X [] wv:=fun _ _ _ _ H Q I h=>Calls.spliced_nil ⟨[],H,I,.nil,h⟩
theorem eA (ha:PE X e te) (hr:PA X es t) (hs:starEach (e::es) X.env=(false,eval e X.env)::starEach es X.env:=by rfl):PA X (e::es) (BQ te t):=by
 intro pos pins s σ H Q I h;rw [hs];show wpAny _ _ (spliced ((false,eval e X.env)::backTo pos (starEach es X.env))) _ _ s;refine LK (thn (ha pins s σ H _ I h) fun u s1 ⟨x,H1,I1,r1,q1⟩=>?_)
 exact thn (hr pos pins s1 σ H1 _ I1 q1) fun us s2 ⟨xs,H2,I2,r2,q2⟩=>⟨x::xs,H2,I2,.cons r1 r2,q2⟩
def tTup (t:TA):TE:=fun σ H Q=>t σ H fun xs H1=>xs.length<=sizeLine/\∀ p,H1 p=none->Q (.ref p) (upd H1 p (.tup xs))
def tLst (t:TA):TE:=fun σ H Q=>t σ H fun xs H1=>xs.length<=sizeLine/\∀ p,H1 p=none->Q (.ref p) (upd H1 p (.lst xs))
theorem iE {x1} (h:PA X es t):PE X (.Tuple es x1 pos) (tTup t):=by
 intro pins s σ H Q I hq;refine wpAny_Tuple_spliced (thn (h pos pins s σ H _ I hq) fun us s1 ⟨xs,H1,I1,r,z,q⟩=>⟨by rw [← r.length];exact z,?_⟩)
 have hf:H1 s1.heap.objs.size=none:=I1.hok.fresh (Go _);refine ⟨.ref s1.heap.objs.size,upd H1 s1.heap.objs.size (.tup xs),I1.laid (t':=s1.toks) (fun b u e=>Gx _ e) (Go _) ?_,rfl,q _ hf⟩
 exact ⟨z,us,r,⟨_,Hi _ rfl,rfl,_,rfl⟩⟩
theorem fP (h:PA X es t):PE X (.List es pos) (tLst t):=by
 intro pins s σ H Q I hq;refine wpAny_List_spliced (thn (h pos pins s σ H _ I hq) fun us s1 ⟨xs,H1,I1,r,z,q⟩=>⟨by rw [← r.length];exact z,?_⟩)
 have hf:H1 s1.heap.objs.size=none:=I1.hok.fresh (Go _);refine ⟨.ref s1.heap.objs.size,upd H1 s1.heap.objs.size (.lst xs),I1.laid (t':=s1.toks) (fun b u e=>Gx _ e) (Go _) ?_,rfl,q _ hf⟩
 exact ⟨z,us,0,r,Hi _ rfl⟩
end
abbrev Sp:=List V->Hp->VK->XK->Prop
abbrev CXT:=List L5->Hp->Gp->XK->Gg->Gp->Prop
structure yZ (P:Hk) (w:Hy) (K:Gh) (mg:G9->Option Gg) (base:GZ) (A:HB) (outer:List L5) (s:Gp) (H:Hp):Prop where
 frames:A.frames=some outer
 mod:Mod K mg base
 bs:∀ b o,base.get? b=some o->s.heap.get? b=some o/\H b=none
 bsz:base.objs.size<=s.heap.objs.size
 funs:s.heap.FunFrames base outer
 frf:∀ b∈frs outer,H b=none
 hok:HOk P w H s.heap
 bare:LY s.gens
def CE (outer:List L5) (P:Hk) (w:Hy) (H:Hp) (s:Gp) (Q:VK) (u:Gg) (s':Gp):Prop :=
 ∃ v H',s'.os=s.os/\LY s'.gens/\Un (frs outer) [] H H' s.heap s'.heap/\HOk P w H' s'.heap/\fE v u/\Q v H'
def CR (CX:CXT) (outer:List L5) (P:Hk) (w:Hy) (H:Hp) (s:Gp) (Q:VK) (E:XK) (r:Result) (s':Gp):Prop :=
 match r with
 | .ok (.ret u)=>CE outer P w H s Q u s'
 | .ok _=>False
 | .error e=>CX outer H s E e s'
structure ff (P:Hk) (w:Hy) (K:Gh) (mg:G9->Option Gg) (base:GZ) (CX:CXT) (k:Nat) (f:Gf) (fd:GG) (ps:List G9) (sp:Sp):Prop where
 len:∀ vs H Q E,sp vs H Q E->vs.length=ps.length
 run:∀ (A:HB) (outer:List L5) (s:Gp) (H:Hp) (args:Args) (us:List Gg) (vs:List V) (Q:VK) (E:XK),fi k A->yZ P w K mg base A outer s H->BindsTo s fd args (ps.zip us)->fu vs us->sp vs H Q E ->
  codeAny (model P w) A (.call (.ref f) args) (CR CX outer P w H s Q E) s
theorem yZ.make {P:Hk} {w:Hy} {K:Gh} {mg:G9->Option Gg} {base:GZ} {A:HB} {outer:List L5} {s:Gp} {H:Hp} (e:yZ P w K mg base A outer s H) (C:Gf) (us:List Gg) (kw:List (G9×Gg)) :
  yZ P w K mg base (A.under (.builtin "type.__call__" ⟨.ref C::us,kw⟩)) outer s H:=⟨by first | exact e.frames | (simpa [HB.under,Code.envs,Code.isFrame,pushEnvs] using e.frames),e.mod,e.bs,e.bsz,e.funs,e.frf,e.hok,e.bare⟩
section
variable {X:Cx} {pins:List (Gf×Io)} {σ:St} {H:Hp} {s s':Gp}
theorem Inv.env0 (I:Inv X pins σ H s):yZ X.prog X.w X.K X.mg X.base X.A X.stack s H :=
 ⟨I.ok.frames,I.ok.mod,I.bs,Ie I.ok.bsz I.sz,I.stack,I.stkFree,I.hok,I.bare⟩
theorem Inv.after {Q:VK} {u:Gg} (I:Inv X pins σ H s) (h:CE X.stack X.prog X.w H s Q u s'):EP X pins σ Q u s':=by
 obtain ⟨v,H',os,bare,un,hok,r,q⟩:=h;obtain ⟨hh,g,d,t,os'⟩:=s';obtain rfl:os'=s.os:=os;exact ⟨v,H',I.call (h':=hh) (g':=g) (d':=d) (t':=t) (ch:=[]) un hok bare (fun b z=>absurd z (by simp)),r,q⟩
end
def FQ (sp:Sp) (dvs:List V) (E:XK) (t:TA):TE:=fun σ H Q=>t σ H fun vs H1=>sp (vs++dvs) H1 Q E
def zg (C:Gf) (m:G9) (sp:Sp) (dvs:List V) (E:XK) (ta:TE) (t:TA):TE:=fun σ H Q=>ta σ H fun x H1=>∃ a dx fs,x = .ref a/\H1 a=some (.ins C dx fs)/\fs.lookup m=none /\
 t σ H1 fun vs H2=>sp (x::(vs++dvs)) H2 Q E
def zh (C:Gf) (sp:Sp) (dvs:List V) (E:XK) (t:TA):TE:=fun σ H Q=>t σ H fun vs H1=>∀ x dx,H1 x=none->H1 dx=none->dx≠x ->
 sp (.ref x::(vs++dvs)) (upd (upd H1 dx (.own x)) x (.ins C dx [])) (fun v H2=>v = .non/\Q (.ref x) H2) E
def jh (K:Gh) (fd:GG) (ps:List G9) (ds:List Gg):Prop :=
 ∀ (s:Gp) (us:List Gg),K.In s.heap->(us++ds).length=ps.length->BindsTo s fd ⟨us,[]⟩ (ps.zip (us++ds))
theorem jh.all {K:Gh} {fd:GG} {ps:List G9} (h:∀ us:List Gg,us.length=ps.length->bindArgs fd ⟨us,[]⟩=pure (ps.zip us)):jh K fd ps []:=fun s us _ hl=>by
 rw [Iq] at hl ⊢;exact .of_eq (h us hl)
def jd (CX:CXT) (X:Cx) (E:XK):Prop:=∀ (pins:List (Gf×Io)) (σ:St) (H:Hp) (s:Gp) (e:Gg) (s':Gp),Inv X pins σ H s->CX X.stack H s E e s'->X.xe e s'
section
variable {X:Cx} {CX:CXT} {k:Nat} {f C:Gf} {fd:GG} {ps:List G9} {sp:Sp} {dvs:List V} {ds:List Gg} {E:XK} {x m:G9} {p pos apos:Kv} {e o:HM} {es:List HM} {ta:TE} {t:TA}
theorem yk {pins:List (Gf×Io)} {σ:St} {H:Hp} {s:Gp} {Q:VK} {us:List Gg} {vs:List V} (F:ff X.prog X.w X.K X.mg X.base CX k f fd ps sp) (hr:fi k X.A) (hb:jh X.K fd ps ds) (hd:fu dvs ds) (hx:jd CX X E)
  (I:Inv X pins σ H s) (r:fu vs us) (h:sp (vs++dvs) H Q E):wpAny (model X.prog X.w) X.A (call (.ref f) us) (EP X pins σ Q) X.xe s:=by
 have r2:fu (vs++dvs) (us++ds):=r.append hd;have hl:(us++ds).length=ps.length:=by rw [← r2.length];exact F.len _ _ _ _ h
 refine wpAny_call (KW (F.run X.A X.stack s H ⟨us,[]⟩ (us++ds) (vs++dvs) Q E hr I.env0 (hb s us I.kIn hl) r2 h) fun r s' hq=>?_)
 cases r with
 | error e=>exact hx pins σ H s e s' I hq
 | ok fl =>
  cases fl with
  | ret u=>exact I.after hq
  | next=>exact HW hq
  | brk=>exact HW hq
  | cont=>exact HW hq
theorem EY (F:ff X.prog X.w X.K X.mg X.base CX k f fd ps sp) (hr:fi k X.A) (hg:Gl X x) (hm:X.mg x=some (.ref f)) (hk:HL X.K (.ref f)=true) (hb:jh X.K fd ps ds) (hd:fu dvs ds) (hx:jd CX X E)
  (ha:PA X (e::es) t) (hdb:(x == ("__debug__":G9))=false:=by decide) (he:starEach (e::es) X.env=(false,eval e X.env)::starEach es X.env:=by rfl) (hpl:(backTo pos (starEach es X.env)).any (·.1)=false:=by rfl) :
  PE X (.Call (.Name x p) (e::es) [] pos) (FQ sp dvs E t):=by
 intro pins s σ H Q I h;refine IW (mh I hg hm ?_ hdb);refine JX (h₀:=X.base) I.ok.mod.kin hk (thn (ha pos pins s σ H _ I h) fun us s1 ⟨vs,H1,I1,r,q⟩=>⟨I1.kIn,?_⟩) he hpl
 exact yk F hr hb hd hx I1 r q
theorem EU {pl:Sem Bool} (he:PE X o ta) (c:Cls X.K C) (hm:Ei X.K C m f) (F:ff X.prog X.w X.K X.mg X.base CX k f fd ps sp) (hr:fi k X.A) (hb:jh X.K fd ps ds) (hd:fu dvs ds) (hx:jd CX X E) (ha:PA X (e::es) t)
  (hst:starEach (e::es) X.env=(false,eval e X.env)::starEach es X.env:=by rfl) (hpl:(backTo pos (starEach es X.env)).any (·.1)=false:=by rfl)
  (ht:eval (.Call (.Attribute o m apos) (e::es) [] pos) X.env=(do
   let ov ← eval o X.env
   standAt apos.atName
   let (f,first) ← holding [ov] (getMethod ov m pl)
   callWith pos f first (backTo pos (starEach (e::es) X.env)) (backToKw pos (keywordEach [] X.env))):=by rfl) :
  PE X (.Call (.Attribute o m apos) (e::es) [] pos) (zg C m sp dvs E ta t):=by
 intro pins s σ H Q I h;refine PySem.W.methodCall_KW (pl:=pl) (thn (he pins s σ H _ I h) fun u s1 ⟨x,H1,I1,rx,a,dx,fs,ex,ea,l,q⟩=>?_) ht
 subst ex;obtain rfl:u=Hq a:=rx;refine sQ I1 ea c hm l ?_;refine JX (first:=[.ref a]) (h₀:=X.base) I.ok.mod.kin hm.kp (thn (ha pos pins s1 σ H1 _ I1 q) fun us s2 ⟨vs,H2,I2,r,q2⟩=>⟨I2.kIn,?_⟩) hst hpl
 exact yk (us := .ref a::us) (vs := .ref a::vs) F hr hb hd hx I2 (.cons rfl r) q2
theorem CU {pl:Sem Bool} (he:PE X o ta) (c:Cls X.K C) (hm:Ei X.K C m f) (F:ff X.prog X.w X.K X.mg X.base CX k f fd ps sp) (hr:fi k X.A) (hb:jh X.K fd ps ds) (hd:fu dvs ds) (hx:jd CX X E)
  (ht:eval (.Call (.Attribute o m apos) [] [] pos) X.env=(do
   let ov ← eval o X.env
   standAt apos.atName
   let (f,first) ← holding [ov] (getMethod ov m pl)
   callWith pos f first (backTo pos (starEach [] X.env)) (backToKw pos (keywordEach [] X.env))):=by rfl) :
  PE X (.Call (.Attribute o m apos) [] [] pos) (zg C m sp dvs E ta wv):=by
 intro pins s σ H Q I h;refine PySem.W.methodCall_KW (pl:=pl) (thn (he pins s σ H _ I h) fun u s1 ⟨x,H1,I1,rx,a,dx,fs,ex,ea,l,q⟩=>?_) ht
 subst ex;obtain rfl:u=Hq a:=rx;refine sQ I1 ea c hm l ?_;exact PySem.W.callWith_K0 (first:=[.ref a]) I1.kIn hm.kp (yk (us:=[.ref a]) (vs:=[.ref a]) F hr hb hd hx I1 (.cons rfl .nil) q)
structure Mk (K:Gh) (C f:Gf):Prop where
 makes:Kl K C=true
 init:II K (.ref C) "__init__"=some (some (.ref f))
 fn:Kt K (.ref f)=true
 kp:HL K (.ref C)=true
theorem wV {pins:List (Gf×Io)} {σ:St} {H:Hp} {s:Gp} {Q:VK} {us:List Gg} {vs:List V} (M:Mk X.K C f) (F:ff X.prog X.w X.K X.mg X.base CX k f fd ps sp) (hr:fi (k+1) X.A) (hb:jh X.K fd ps ds) (hd:fu dvs ds)
  (hx:jd CX X E) (I:Inv X pins σ H s) (r:fu vs us)
  (h:∀ x dx,H x=none->H dx=none->dx≠x->sp (.ref x::(vs++dvs)) (upd (upd H dx (.own x)) x (.ins C dx [])) (fun v H2=>v = .non/\Q (.ref x) H2) E) :
  wpAny (model X.prog X.w) X.A (call (.ref C) us) (EP X pins σ Q) X.xe s:=by
 have hq:=h (s.heap.objs.size+1) s.heap.objs.size (I.hok.fresh (Nat.le_succ _)) (I.hok.fresh (Go _)) (Hu (Mb _));have I2:=Inv.made (C:=C) I;have r2:fu (V.ref (s.heap.objs.size+1)::(vs++dvs)) (Hq (s.heap.objs.size+1)::(us++ds)) := .cons rfl (r.append hd);have hl:(Hq (s.heap.objs.size+1)::us++ds).length=ps.length:=by
  have e:=r2.length;rw [F.len _ _ _ _ hq] at e;exact e.symm
 refine wpAny_call (DJ (f:=f) I.kIn M.makes M.init (beq_iff_eq.mp M.fn) (KW (F.run _ X.stack _ _ ⟨Hq (s.heap.objs.size+1)::us,[]⟩ (Hq (s.heap.objs.size+1)::(us++ds)) _ _ E (hr.make C us [])
  (I2.env0.make C us []) (hb _ (Hq (s.heap.objs.size+1)::us) I2.kIn hl) r2 hq) fun r s' hq'=>?_))
 cases r with
 | error e=>exact hx pins σ _ _ e s' I2 hq'
 | ok fl =>
  cases fl with
  | ret u =>
   obtain ⟨v,H',I3,rv,ev,q3⟩:=I2.after hq';subst ev;exact ⟨rv,⟨V.ref (s.heap.objs.size+1),H',I3,rfl,q3⟩⟩
  | next=>exact HW hq'
  | brk=>exact HW hq'
  | cont=>exact HW hq'
theorem EW (M:Mk X.K C f) (F:ff X.prog X.w X.K X.mg X.base CX k f fd ps sp) (hr:fi (k+1) X.A) (hg:Gl X x) (hm:X.mg x=some (.ref C)) (hb:jh X.K fd ps ds) (hd:fu dvs ds) (hx:jd CX X E)
  (ha:PA X (e::es) t) (hdb:(x == ("__debug__":G9))=false:=by decide) (he:starEach (e::es) X.env=(false,eval e X.env)::starEach es X.env:=by rfl) (hpl:(backTo pos (starEach es X.env)).any (·.1)=false:=by rfl) :
  PE X (.Call (.Name x p) (e::es) [] pos) (zh C sp dvs E t):=by
 intro pins s σ H Q I h;refine IW (mh I hg hm ?_ hdb);refine JX (h₀:=X.base) I.ok.mod.kin M.kp (thn (ha pos pins s σ H _ I h) fun us s1 ⟨vs,H1,I1,r,q⟩=>⟨I1.kIn,?_⟩) he hpl
 exact wV M F hr hb hd hx I1 r q
theorem CW (M:Mk X.K C f) (F:ff X.prog X.w X.K X.mg X.base CX k f fd ps sp) (hr:fi (k+1) X.A) (hg:Gl X x) (hm:X.mg x=some (.ref C)) (hb:jh X.K fd ps ds) (hd:fu dvs ds) (hx:jd CX X E)
  (hdb:(x == ("__debug__":G9))=false:=by decide):PE X (.Call (.Name x p) [] [] pos) (zh C sp dvs E wv):=by
 intro pins s σ H Q I h;refine IW (mh I hg hm ?_ hdb);exact PySem.W.callWith_K0 I.kIn M.kp (wV (us:=[]) M F hr hb hd hx I .nil h)
end
def PK (X:Cx) (kws:List Keyword) (t:TA):Prop :=
 ∀ (pos:Kv) (pins:List (Gf×Io)) (s:Gp) (σ:St) (H:Hp) (Q:List V->Hp->Prop),Inv X pins σ H s->t σ H Q->wpAny (model X.prog X.w) X.A (evalAll ((backToKw pos (keywordEach kws X.env)).map (·.2))) (AP X pins σ Q) X.xe s
section
variable {X:Cx} {CX:CXT} {k:Nat} {f C:Gf} {fd:GG} {ps ks:List G9} {sp:Sp} {E:XK} {x m:G9} {p pos apos kpos:Kv} {e o:HM} {es:List HM} {kws:List Keyword} {te ta:TE} {t tk:TA} {nm:Option G9}
theorem pk_nil:PK X [] wv:=fun _ _ _ _ H Q I h=>wpAny_evalAll_nil ⟨[],H,I,.nil,h⟩
theorem ER (ha:PE X e te) (hr:PK X kws t):PK X (⟨nm,e,kpos⟩::kws) (BQ te t):=by
 intro pos pins s σ H Q I h;show wpAny _ _ (evalAll ((do let v ← eval e X.env;standAt pos;pure v)::(backToKw pos (keywordEach kws X.env)).map (·.2))) _ _ s
 refine wpAny_evalAll_cons (Gm (thn (ha pins s σ H _ I h) fun u s1 ⟨x,H1,I1,r1,q1⟩=>Gm (KH (GY ?_))))
 exact thn (hr pos pins s1 σ H1 _ I1 q1) fun us s2 ⟨xs,H2,I2,r2,q2⟩=>⟨x::xs,H2,I2,.cons r1 r2,q2⟩
variable {g:List Gg->List Gg->List Gg} {gV:List V->List V->List V}
end
structure eM (N P:List G9) (sc:JL):Prop where
 kind:sc.kind = .function
 co:sc.isCoroutine=false
 gen:sc.isGenerator=false
 nd:N.Nodup
 pre:N.take P.length=P
 par:∀ x∈P,sc.names.lookup x=some .local∨sc.names.lookup x=some .cell
 nofree:∀ y∈sc.names,y.2 ≠ .free
theorem uX {kindOf:G9->Option IB} {x:G9}:∀ {binds:List (G9×Gg)} {m:G9->Option Gg},(∀ v,(x,v)∉binds)->bindL kindOf binds m x=m x
 | [],_,_=>rfl
 | (n,v)::r,m,h=>by
  unfold bindL;rw [uX fun w hw=>h w (G3 _ hw)]
  split
  ·have:x≠n:=by rintro rfl;exact h v Hf
   simp [this]
  ·rfl
theorem uZ {kindOf:G9->Option IB} {x:G9}:∀ {binds:List (G9×Gg)} {m:G9->Option Gg},(∀ v,(x,v)∉binds)->bindC kindOf binds m x=m x
 | [],_,_=>rfl
 | (n,v)::r,m,h=>by
  unfold bindC;rw [uZ fun w hw=>h w (G3 _ hw)]
  split
  ·rfl
  ·have:x≠n:=by rintro rfl;exact h v Hf
   simp [this]
theorem uY {kindOf:G9->Option IB} {x:G9} {v:Gg}:∀ {P:List G9} {vs:List Gg} {i:Nat} {m:G9->Option Gg},P.Nodup->P[i]?=some x->vs[i]?=some v->kindOf x=some .local ->
  bindL kindOf (P.zip vs) m x=some v
 | [],_,_,_,_,h,_,_=>by simp at h
 | _::_,[],_,_,_,_,h,_=>by simp at h
 | p::P,w::vs,0,m,nd,h1,h2,hk=>by
  simp at h1 h2;subst h1;subst h2;show bindL kindOf ((p,w)::P.zip vs) m p=_;unfold bindL;rw [uX fun v hv=>(Ll.mp nd).1 (Mi hv).1,Ga hk]
  simp
 | p::P,w::vs,i+1,m,nd,h1,h2,hk=>by
  show bindL kindOf ((p,w)::P.zip vs) m x=_;unfold bindL;exact uY (i:=i) (Ll.mp nd).2 (by simpa using h1) (by simpa using h2) hk
theorem vd {kindOf:G9->Option IB} {x:G9} {v:Gg}:∀ {P:List G9} {vs:List Gg} {i:Nat} {m:G9->Option Gg},P.Nodup->P[i]?=some x->vs[i]?=some v->kindOf x≠some .local ->
  bindC kindOf (P.zip vs) m x=some v
 | [],_,_,_,_,h,_,_=>by simp at h
 | _::_,[],_,_,_,_,h,_=>by simp at h
 | p::P,w::vs,0,m,nd,h1,h2,hk=>by
  simp at h1 h2;subst h1;subst h2;show bindC kindOf ((p,w)::P.zip vs) m p=_;unfold bindC;rw [uZ fun v hv=>(Ll.mp nd).1 (Mi hv).1,F9 hk]
  simp
 | p::P,w::vs,i+1,m,nd,h1,h2,hk=>by
  show bindC kindOf ((p,w)::P.zip vs) m x=_;unfold bindC;exact vd (i:=i) (Ll.mp nd).2 (by simpa using h1) (by simpa using h2) hk
def start (N:List G9) (vs:List V):St:=vs.map some++Gq (N.length-vs.length) none
def cxOf (cm:Bool) (CX:CXT) (P:Hk) (w:Hy) (K:Gh) (mg:G9->Option Gg) (base:GZ) (N:List G9) (qual:G9) (scope:JL) (f:Gf) (cd:Gg) (A:HB) (outer:List L5) (s:Gp) (H:Hp) (E:XK):Cx where
 prog:=P
 w:=w
 K:=K
 mg:=mg
 base:=base
 A:=A.deeper (envOfC qual scope s.heap.objs.size f cd)
 N:=N
 s_0:=s
 H_0:=H
 env:=envOfC qual scope s.heap.objs.size f cd
 outer:=outer
 stack:=envOfC qual scope s.heap.objs.size f cd::outer
 ex:=[]
 calm:=cm
 fn:=fun _=>true
 pn:=[]
 xe:=fun e s'=>wpAny (model P w) (A.deeper (envOfC qual scope s.heap.objs.size f cd)) (leaving (envOfC qual scope s.heap.objs.size f cd) e) (fun _ s''=>CX outer H s E e s'') (fun e' s''=>CX outer H s E e' s'') s'
theorem xI {sc:JL} {n:Nat} {x:G9} (h:sc.names.lookup x=some .cell):∃ c,(cellsFrom n sc.names []).lookup x=some c:=by
 have q:=PySem.W.cellsFrom_some sc.names n [] (.inl h);exact Option.isSome_iff_exists.mp q
theorem Bu {cm:Bool} {CX:CXT} {P:Hk} {w:Hy} {K:Gh} {mg:G9->Option Gg} {base:GZ} {N ps:List G9} {qual:G9} {scope:JL} {f:Gf} {cd:Gg} {A:HB} {outer:List L5} {s s1:Gp} {H:Hp} {E:XK} {us:List Gg} {vs:List V}
  (S:eM N ps scope) (hd:cm=true->A.handled=none) (e0:yZ P w K mg base A outer s H) (hl:vs.length=ps.length) (r:fu vs us)
  (x:InCallC s s.heap.objs.size (bindL (envOfC qual scope s.heap.objs.size f cd).kindOf (ps.zip us) fun _=>none) (cellsFrom (s.heap.objs.size+1) scope.names []) (bindC (envOfC qual scope s.heap.objs.size f cd).kindOf (ps.zip us) fun _=>none) s1) :
  Inv (cxOf cm CX P w K mg base N qual scope f cd A outer s H E) [] (start N vs) H s1:=by
 have hpl:ps.length<=N.length:=by have:=congrArg Ih S.pre;rw [HF] at this;omega
 obtain ⟨h1,tk,rfl,hk⟩:=x.done;have noA:∀ b:Gf,b∉(cxOf cm CX P w K mg base N qual scope f cd A outer s H E).ex:=fun b z=>absurd (show b∈([]:List Gf) from z) (by simp)
 refine ⟨⟨e0.mod,S.kind,rfl,rfl,Go _,fun y z c h1 h2=>?_,fun y hy=>?_,fun y c _ h=>?_,hd,HB.frames_deeper e0.frames,.inr ⟨rfl,rfl⟩,fun b z=>absurd z (noA b),e0.bs,e0.bsz,fun b _ _=>noA b,fun b z=>absurd z (noA b),e0.funs,e0.frf⟩,
  rfl,e0.bare,Un.kept hk,⟨_,x.toInCall.ns,fun i y v h1 h2 h3=>?_⟩,fun y c h=>⟨_,x.cell y c h⟩,e0.hok.fresh (Go _),fun y c h=>?_,fun p hp=>absurd (show p∈([]:List (Gf×Io)) from hp) (by simp),e0.hok.kept hk,?_⟩
 ·exact name_of_addr x.apart (HD h1) (HD h2)
 ·have hy:scope.names.lookup y=some .cell∨scope.names.lookup y=some .free:=hy
  rcases hy with hy | hy
  ·exact xI hy
  ·exact absurd rfl (S.nofree _ (HD hy))
 ·exact Lj (x.above y c (HD h))
 ·have hi:i<vs.length:=by
   unfold start at h2;by_cases hi:i<vs.length
   ·exact hi
   ·rw [Hg (by simpa using hi)] at h2
    rw [List.getElem?_replicate] at h2;split at h2 <;> cases h2
  have ha:vs[i]?=some v:=by
   unfold start at h2;rw [G6 (by simpa using hi),Hh] at h2;cases e:vs[i]? with
   | none=>rw [e] at h2;cases h2
   | some a=>rw [e] at h2;cases h2;rfl
  obtain ⟨u,hu,rv⟩:=r.get ha;have hp:ps[i]?=some y:=by
   rw [← S.pre,List.getElem?_take_of_lt (by omega)];exact h1
  have ndP:ps.Nodup:=by rw [← S.pre];exact S.nd.sublist (List.take_sublist _ _)
  refine ⟨u,rv,?_⟩;rcases S.par y (HG hp) with k | k
  ·exact .inl ⟨k,uY ndP hp hu k⟩
  ·obtain ⟨c,e⟩:=xI (n:=s.heap.objs.size+1) k
   refine .inr ⟨.inl k,c,e,?_⟩;have q:=x.cell y c e;rw [vd ndP hp hu (by show scope.names.lookup y≠_;rw [k];decide)] at q;exact q
 ·exact e0.hok.fresh (Lj (x.above y c (HD h)))
 ·unfold start
  show _=N.length;rw [Gi,Ge,Ln];omega
theorem F5 {CX:CXT} {P:Hk} {w:Hy} {K:Gh} {mg:G9->Option Gg} {base:GZ} {k:Nat} {f:Gf} {name qual:G9} {params:Arguments} {body:List HH} {scope:JL} {dV kV doc pm cdv ct oc:Gg} {an od:Option Gf}
  {osl:Array (Option Gg)} {N ps:List G9} {sp:Sp} (lk:K.lookup f=some ⟨oc,od,.func (IA name qual params body scope dV kV doc pm an cdv ct),osl⟩) (hcd:J3 K cdv qual=true) (S:eM N ps scope)
  (len:∀ vs H Q E,sp vs H Q E->vs.length=ps.length)
  (hbody:∀ (A:HB) (outer:List L5) (s:Gp) (H:Hp) (vs:List V) (Q:VK) (E:XK),fi k (A.deeper (envOfC qual scope s.heap.objs.size f cdv))->sp vs H Q E ->
   ∃ t,PSs (cxOf (decide (10<=k)) CX P w K mg base N qual scope f cdv A outer s H E) body t/\t { nx:=fun _ H'=>Q .non H',rt:=Q } (start N vs) H) :
  ff P w K mg base CX (k+1) f (IA name qual params body scope dV kV doc pm an cdv ct) ps sp:=by
 refine ⟨len,fun A outer s H args us vs Q E hr e0 hb r hsp=>?_⟩
 have hl:=len _ _ _ _ hsp;have KX:K.In s.heap:=e0.mod.kin.keeps fun b o e=>(e0.bs b o e).1
 have lim:s.heap.NoLimit:=e0.mod.nolimit.keeps fun b o e=>(e0.bs b o e).1
 have hkind:∀ y∈ps.zip us,scope.names.lookup y.1=some .local∨(scope.names.lookup y.1=some .cell/\((cellsFrom (s.heap.objs.size+1) scope.names []).lookup y.1).isSome=true):=fun ⟨n,v⟩ hy=>by
  rcases S.par n (Mi hy).1 with q | q
  ·exact .inl q
  ·exact .inr ⟨q,PySem.W.cellsFrom_some _ _ _ (.inl q)⟩
 refine codeAny_call_function hr.depth (KX _ _ lk) rfl S.co S.gen rfl (PySem.W.codeRec_of KX hcd) (hb _ _ _ _ ?_);refine wpAny_newFunctionEnv_cells S.kind hkind fun env he s1 x=>?_
 subst he;refine ⟨lim.keeps x.toInCall.keep,codeAny_func ?_⟩;obtain ⟨t,ht,hq⟩:=hbody A outer s H vs Q E (hr.deeper _) hsp;have I:Inv (cxOf (decide (10<=k)) CX P w K mg base N qual scope f cdv A outer s H E) [] (start N vs) H s1:=Bu S (fun z=>hr.hd (L4 (Gd z))) e0 hl r x
 refine Iv (ht [] s1 (start N vs) H _ I hq) (fun fl s' hs=>?_) fun e s' hs=>hs
 have fin:∀ {σ':St} {H':Hp} {v:V} {u:Gg},Inv (cxOf (decide (10<=k)) CX P w K mg base N qual scope f cdv A outer s H E) [] σ' H' s'->fE v u->Q v H'->CE outer P w H s Q u s' :=
  fun {σ' H' v u} J rv q=>⟨v,H',J.os,J.bare,J.base,J.hok,rv,q⟩
 cases fl with
 | ret u =>
  obtain ⟨v,σ',H',J,rv,q⟩:=hs;exact fin J rv q
 | next =>
  obtain ⟨σ',H',J,q⟩:=hs;exact fin (v:=V.non) (u:=Iy) J rfl q
 | brk =>
  obtain ⟨_,_,_,q⟩:=hs;exact HW q
 | cont =>
  obtain ⟨_,_,_,q⟩:=hs;exact HW q
end L2
namespace L2
open PySem PySem.Spec PyProof.Rows
section
variable {X:Cx} {x:G9} {p pos:Kv} {e:HM} {es:List HM} {t:TA} {id T:String} {r:List V->Hp->VK->Prop}
def tCB (r:List V->Hp->VK->Prop) (t:TA):TE:=fun σ H Q=>t σ H fun vs H1=>r vs H1 Q
theorem eU (hc:mo X (.builtin id) r) (hg:Gl X x) (hm:X.mg x=none) (hv:bootBuiltins x=some (.builtin id)) (ha:PA X (e::es) t) (hn:x ≠ "__name__":=by decide) (hdb:(x == ("__debug__":G9))=false:=by decide)
  (he:starEach (e::es) X.env=(false,eval e X.env)::starEach es X.env:=by rfl) (hpl:(backTo pos (starEach es X.env)).any (·.1)=false:=by rfl):PE X (.Call (.Name x p) (e::es) [] pos) (tCB r t):=by
 intro pins s σ H Q I h;refine IW (oK I hg hm hv ?_ hn hdb);exact PyProof.Rows.callWith_builtin1 (thn (ha pos pins s σ H _ I h) fun us s1 ⟨vs,H1,I1,r1,q1⟩=>hc pins s1 σ H1 vs us Q I1 r1 q1) he hpl
theorem ly (hc:mo X (.type T) r) (hg:Gl X x) (hm:X.mg x=none) (hv:bootBuiltins x=some (.type T)) (ha:PA X (e::es) t) (hn:x ≠ "__name__":=by decide) (hdb:(x == ("__debug__":G9))=false:=by decide)
  (he:starEach (e::es) X.env=(false,eval e X.env)::starEach es X.env:=by rfl) (hpl:(backTo pos (starEach es X.env)).any (·.1)=false:=by rfl):PE X (.Call (.Name x p) (e::es) [] pos) (tCB r t):=by
 intro pins s σ H Q I h;refine IW (oK I hg hm hv ?_ hn hdb);exact IV (thn (ha pos pins s σ H _ I h) fun us s1 ⟨vs,H1,I1,r1,q1⟩=>hc pins s1 σ H1 vs us Q I1 r1 q1) he hpl
end
end L2
namespace HT
open PySem PyProof.Rows
section
open PySem.SeqAt
open PySem.AutoSeq1 (wpAny_loadPart')
open PySem.MeetsSeq PySem.MeetsSeq2 PySem.MeetsSeq3
end
section
variable {prog:Hk} {w:Hy} {A:HB} {E:Gg->Gp->Prop} {s:Gp}
def sIx (n d:Nat):Option Int->Nat
 | none=>d
 | some v=>if v<0 then (v+(n:Int)).toNat else min v.toNat n
theorem sIx_none (n d:Nat):sIx n d none=d:=rfl
theorem sIx_nat (n d k:Nat):sIx n d (some (k:Int))=min k n:=by
 show (if (k:Int)<0 then ((k:Int)+(n:Int)).toNat else min (k:Int).toNat n)=min k n
 rw [F9 (by omega),HE]
end
end HT
namespace L2
open PySem PySem.Spec PyProof.Rows
abbrev TO:=St->Hp->(Option Int->Hp->Prop)->Prop
def PO (X:Cx) (e:Option HM) (t:TO):Prop :=
 ∀ (pins:List (Gf×Io)) (s:Gp) (σ:St) (H:Hp) (Q:Option Int->Hp->Prop),Inv X pins σ H s->t σ H Q ->
  wpAny (model X.prog X.w) X.A (evalPart e X.env) (fun u s'=>∃ o H',Inv X pins σ H' s'/\IsPart u o/\Q o H') X.xe s
def Eu:TO:=fun _ H Q=>Q none H
def tPart (t:TE):TO:=fun σ H Q=>t σ H fun x H1=>∃ i,x = .int i/\Q (some i) H1
section
variable {X:Cx} {e:HM} {te:TE} {lo hi:Option HM} {tl th:TO} {pos p2:Kv}
theorem nE:PO X none Eu:=by
 intro pins s σ H Q I h;rw [evalPart_none];exact GY ⟨none,H,I,.none,h⟩
theorem fH (h:PE X e te):PO X (some e) (tPart te):=by
 intro pins s σ H Q I hw;rw [evalPart_some];refine thn (h pins s σ H _ I hw) fun u s1 ⟨x,H1,I1,r1,q1⟩=>?_
 obtain ⟨i,rfl,q⟩:=q1;obtain ⟨t,rfl⟩:=r1;exact ⟨some i,H1,I1,.int i t,q⟩
def SlR (X:Cx) (r:V->Option Int->Option Int->Hp->VK->Prop):Prop :=
 ∀ (pins:List (Gf×Io)) (s:Gp) (σ:St) (H:Hp) (x:V) (v vl vu:Gg) (lo hi:Option Int) (sl:Gf) (Q:VK),Inv X pins σ H s->fE x v->s.heap.IsSliceOf sl vl vu .none->IsPart vl lo->IsPart vu hi->r x lo hi H Q ->
  ∃ T id,typeLookup (.type T) "__getitem__"=pure (some (.builtin id))/\s.TypeIs v T/\wpAny (model X.prog X.w) X.A (getItem v (.ref sl)) (EP X pins σ Q) X.xe s
def tSl (r:V->Option Int->Option Int->Hp->VK->Prop) (te:TE) (tl th:TO):TE:=fun σ H Q=>te σ H fun x H1=>tl σ H1 fun l H2=>th σ H2 fun u H3=>r x l u H3 Q
theorem fZ {r:V->Option Int->Option Int->Hp->VK->Prop} (hr:SlR X r) (he:PE X e te) (hl:PO X lo tl) (hu:PO X hi th):PE X (.Subscript e (.Slice lo hi none p2) pos) (tSl r te tl th):=by
 intro pins s σ H Q I h;refine Subscript_ (thn (he pins s σ H _ I h) fun v s1 ⟨x,H1,I1,r1,q1⟩=>?_)
 refine wpAny_Slice (thn (hl pins s1 σ H1 _ I1 q1) fun vl s2 ⟨l,H2,I2,pl,q2⟩=>thn (hu pins s2 σ H2 _ I2 q2) fun vu s3 ⟨u,H3,I3,pu,q3⟩=>?_)
 rw [evalPart_none];refine GY ?_;have I4:Inv X pins σ H3 { s3 with heap:=s3.heap.push { cls := .type "slice",data := .fields #[vl,vu,.none] } }:=I3.kept (t':=s3.toks) fun b ob q=>Gx _ q
 obtain ⟨T,id,hT,ht,hg⟩:=hr pins { s3 with heap:=s3.heap.push { cls := .type "slice",data := .fields #[vl,vu,.none] } } σ H3 x v vl vu l u s3.heap.objs.size Q I4 r1 (GZ.IsSliceOf.new ..) pl pu q3
 show wpAny (model X.prog X.w) X.A (subscriptTail e (.Slice lo hi none p2) v (.ref s3.heap.objs.size)) (EP X pins σ Q) X.xe { s3 with heap:=s3.heap.push { cls := .type "slice",data := .fields #[vl,vu,.none] } }
 exact tail_any (ops:=[.ref s3.heap.objs.size,v]) ht hT hg (by with_unfolding_all rfl)
def cutV (xs:List V) (lo hi:Option Int):List V:=(xs.drop (HT.sIx xs.length 0 lo)).take (HT.sIx xs.length xs.length hi-HT.sIx xs.length 0 lo)
theorem xG (xs:List V) (lo hi:Option Int):(cutV xs lo hi).length<=xs.length:=by
 unfold cutV;rw [HF,Hv];omega
end
end L2
namespace L2
open PySem PySem.Spec PyProof.Rows
def ixN (n:Nat) (i:Int):Option Nat:=if 0<=i then (if i<n then some i.toNat else none) else if -(n:Int)<=i then some (i+n).toNat else none
def atI {α:Type} (xs:List α) (i:Int):Option α:=(ixN xs.length i).bind fun j=>xs[j]?
theorem Am {n:Nat} {i:Int} {j:Nat} (h:ixN n i=some j):seqIndex? i n=some j/\j<n /\ -(n:Int)<=i/\i<n:=by
 unfold ixN at h;by_cases h0:0<=i
 ·rw [Ga h0] at h
  by_cases h1:i<n
  ·rw [Ga h1] at h
   have e:i.toNat=j:=Hd h;exact ⟨by rw [seqIndex_of h0 h1,e],by omega,by omega,h1⟩
  ·rw [F9 h1] at h;cases h
 ·rw [F9 h0] at h
  by_cases h1 : -(n:Int)<=i
  ·rw [Ga h1] at h
   have e:(i+n).toNat=j:=Hd h;exact ⟨by rw [seqIndex_neg (by omega) h1,e],by omega,h1,by omega⟩
  ·rw [F9 h1] at h;cases h
theorem vY {α:Type} {xs:List α} {i:Int} {v:α} (h:atI xs i=some v):∃ j,seqIndex? i xs.length=some j/\xs[j]?=some v/\j<xs.length /\ -(xs.length:Int)<=i/\i<xs.length:=by
 unfold atI at h;cases e:ixN xs.length i with
 | none=>rw [e] at h;cases h
 | some j =>
  rw [e] at h;obtain ⟨h1,h2,h3,h4⟩:=Am e;exact ⟨j,h1,h,h2,h3,h4⟩
theorem gE {α:Type} {xs:List α} {j:Nat} {v:α} (h:xs[j]?=some v):atI xs (j:Int)=some v:=by
 have hj:j<xs.length:=(Gj.mp h).1;have e:ixN xs.length (j:Int)=some j:=by
  unfold ixN;rw [Ga (by omega),Ga (by omega)];simp
 unfold atI;rw [e];exact h
theorem pX {α:Type} (xs:List α) (v:α):atI (xs++[v]) (-1)=some v:=by
 have hl:(xs++[v]).length=xs.length+1:=by simp
 have e:ixN (xs++[v]).length (-1)=some xs.length:=by
  unfold ixN;rw [hl,F9 (by decide),Ga (by omega)];congr 1;omega
 unfold atI;rw [e];show (xs++[v])[xs.length]?=some v;simp
def FM (b:HM):Prop:=∀ o i,subscripted b false o i=operate [o,i] (getItem o i)
def IxR (X:Cx) (r:R2):Prop :=
 ∀ (value slice:HM) (pins:List (Gf×Io)) (s:Gp) (σ:St) (H:Hp) (x y:V) (v u:Gg) (Q:VK),Inv X pins σ H s->fE x v->fE y u->r x y H Q ->
  subscripted slice false v u=operate [v,u] (getItem v u)->wpAny (model X.prog X.w) X.A (subscriptTail value slice v u) (EP X pins σ Q) X.xe s
def MtR (X:Cx) (id:String) (r:V->List V->Hp->VK->Prop):Prop :=
 ∀ (pins:List (Gf×Io)) (s:Gp) (σ:St) (H:Hp) (x:V) (xs:List V) (v:Gg) (us:List Gg) (Q:VK),Inv X pins σ H s->fE x v->fu xs us->r x xs H Q ->
  wpAny (model X.prog X.w) X.A (call (.builtin id) (v::us)) (EP X pins σ Q) X.xe s
section
variable {X:Cx} {a b:HM} {ta tb:TE} {pos:Kv}
theorem IxR.or {r r':R2} (h:IxR X r) (h':IxR X r'):IxR X (fun x y H Q=>r x y H Q∨r' x y H Q):=by
 intro value slice pins s σ H x y v u Q I rx ry q hs;rcases q with q | q
 ·exact h value slice pins s σ H x y v u Q I rx ry q hs
 ·exact h' value slice pins s σ H x y v u Q I rx ry q hs
theorem fM {r:R2} (hr:IxR X r) (ha:PE X a ta) (hb:PE X b tb) (hs:FM b):PE X (.Subscript a b pos) (tOp r ta tb):=by
 intro pins s σ H Q I h;exact Subscript_ (binT ha hb I h fun v u s2 x y H2 I2 rx ry q=>hr a b pins s2 σ H2 x y v u Q I2 rx ry q (hs _ _))
def rIxL (K:Gh):R2:=fun x y H Q=>∃ p xs i v,x = .ref p/\y = .int i/\SqL K H p xs/\atI xs i=some v/\Q v H
def rIxT (K:Gh):R2:=fun x y H Q=>∃ p xs i v,x = .ref p/\y = .int i/\SqT K H p xs/\atI xs i=some v/\Q v H
def rIxS:R2:=fun x y H Q=>∃ z i c,x = .str z/\y = .int i/\z.length<=sizeLine/\atI z.cps.toList i=some c/\Q (.str ⟨#[c]⟩) H
theorem fm:IxR X (rIxL X.K):=by
 intro value slice pins s σ H x y v u Q I rx ry h hs;obtain ⟨p,xs,i,z,rfl,rfl,hq,he,q⟩:=h;cases rx;obtain ⟨t,rfl⟩:=ry;obtain ⟨its,r,pl,hz⟩:=I.list hq;obtain ⟨j,h1,h2,h3,h4,h5⟩:=vY he;obtain ⟨w,ew,rw'⟩:=r.get h2;have hl:=r.length;have hn:=line63;have fin:EP X pins σ Q w s:=⟨z,H,I,rw',q⟩;by_cases h0:0<=i
 ·have hj:i.toNat=j:=by
   rw [seqIndex_of h0 h5] at h1;exact Hd h1
  exact item_listR pl.isList h0 (by omega) (by rw [hj];simpa using ew) fin hs
 ·have hj:(i+(its.toArray.size:Int)).toNat=j:=by
   rw [seqIndex_neg (by omega) h4] at h1;rw [G0,← hl];exact Hd h1
  exact subscriptTail_builtinR (x:=w) pl.isList.typeIs slot_list_getitem.lookup
   (wpAny_getItem_list_neg (Q:=fun r s'=>r=w/\EP X pins σ Q r s') pl.isList (by omega) (by rw [G0] <;> omega) (by omega) (by rw [hj];simpa using ew) ⟨rfl,fin⟩) hs
theorem qB:IxR X (rIxT X.K):=by
 intro value slice pins s σ H x y v u Q I rx ry h hs;obtain ⟨p,xs,i,z,rfl,rfl,hq,he,q⟩:=h;cases rx;obtain ⟨t,rfl⟩:=ry;obtain ⟨its,r,pl,hz⟩:=I.tuple hq;obtain ⟨j,h1,h2,h3,h4,h5⟩:=vY he;obtain ⟨w,ew,rw'⟩:=r.get h2;have hl:=r.length;have hn:=line63;have fin:EP X pins σ Q w s:=⟨z,H,I,rw',q⟩;exact subscriptTail_builtinR (x:=w) pl.typeIs slot_tuple_getitem.lookup
  (getItem_tuple (j:=j) (Q:=fun r s'=>r=w/\EP X pins σ Q r s') pl (by omega) (by omega) (by rw [G0,← hl];exact h1) (by simpa using ew) ⟨rfl,fin⟩) hs
theorem ix_str:IxR X rIxS:=by
 intro value slice pins s σ H x y v u Q I rx ry h hs;obtain ⟨z,i,c,rfl,rfl,hz,he,q⟩:=h;obtain ⟨t,rfl⟩:=rx;obtain ⟨t',rfl⟩:=ry;obtain ⟨j,h1,h2,h3,h4,h5⟩:=vY he;have hl:z.cps.toList.length=z.length:=by simp [G9.length]
 rw [hl] at h1 h4 h5;have hn:=line63;exact tail_any (typeIs_str s z t) slot_str_getitem.lookup (getItem_str (c:=c) (by
  have e1:decide (i < -(2 ^ 63:Int))=false:=Gc (by omega);have e2:decide (i≥2 ^ 63)=false:=Gc (by omega);rw [e1,e2,Jf]) (by rw [h1];simpa using h2) ⟨.str ⟨#[c]⟩,H,I.tok _,⟨_,rfl⟩,q⟩) hs
def rIx (K:Gh):R2:=fun x y H Q=>rIxL K x y H Q∨rIxT K x y H Q∨rIxS x y H Q
theorem ix_seq:IxR X (rIx X.K):=fm.or (qB.or ix_str)
theorem yG (its:List Gg) (n j:Nat) (u:Gg):Lh (·.setIfInBounds j u) { cls := .type "list",data := .seq its.toArray n }={ cls := .type "list",data := .seq (its.set j u).toArray n }:=by
 simp [Lh]
theorem Inv.lst {pins:List (Gf×Io)} {σ:St} {H:Hp} {s:Gp} {p:Gf} {xs:List V} (I:Inv X pins σ H s) (h:H p=some (.lst xs)) :
  ∃ (its:List Gg) (n:Nat),fu xs its/\s.heap.get? p=some { cls := .type "list",data := .seq its.toArray n }/\xs.length<=sizeLine:=by
 obtain ⟨z,its,n,r,e⟩:=I.hok p _ h;exact ⟨its,n,r,e,z⟩
theorem Inv.lstUpd {pins:List (Gf×Io)} {σ:St} {H:Hp} {s:Gp} {p:Gf} {xs ys:List V} {its its':List Gg} {n n':Nat} {f:Io->Io} (I:Inv X pins σ H s) (h:H p=some (.lst xs))
  (ho:s.heap.get? p=some { cls := .type "list",data := .seq its.toArray n }) (hf:f { cls := .type "list",data := .seq its.toArray n }={ cls := .type "list",data := .seq its'.toArray n' }) (r:fu ys its') (hz:ys.length<=sizeLine) (t:Nat) :
  Inv X pins σ (upd H p (.lst ys)) { s with heap:=s.heap.update p f,toks:=t }:=by
 have e:(s.heap.update p f).get? p=some { cls := .type "list",data := .seq its'.toArray n' }:=by
  rw [IF f ho (by rw [hf] <;> rfl),hf]
 refine I.write (x:=p) (e:=p) (by rw [h];trivial) (.inl rfl) (fun b u hb q=>(HK _ _ (HA hb)).trans q) ⟨_,e⟩ ?_
 exact ⟨hz,its',n',r,e⟩
def rSetL:V->V->V->Hp->(Hp->Prop)->Prop:=fun o i v H Q=>∃ p xs k j,o = .ref p/\i = .int k/\H p=some (.lst xs)/\ixN xs.length k=some j/\Q (upd H p (.lst (xs.set j v)))
theorem Cc:PSet X rSetL:=by
 intro pins s σ H o i v ov iv u Q I ro ri rv h;obtain ⟨p,xs,k,j,rfl,rfl,hp,hj,q⟩:=h;cases ro;obtain ⟨t,rfl⟩:=ri;obtain ⟨its,n,r,ho,hz⟩:=I.lst hp;obtain ⟨h1,h2,h3,h4⟩:=Am hj;have hl:=r.length;have hn:=line63
 have I':Inv X pins σ (upd H p (.lst (xs.set j v))) { s with heap:=s.heap.update p (Lh (·.setIfInBounds j u)) } :=
  I.lstUpd hp ho (yG its n j u) (r.set rv j) (by rw [Ky];exact hz) s.toks
 by_cases h0:0<=k
 ·have hk:k.toNat=j:=by
   rw [seqIndex_of h0 h4] at h1;exact Hd h1
  exact PySem.W.ki_setAt ho h0 (by omega) (by rw [G0,← hl];exact h4) (by rw [hk];exact ⟨_,I',q⟩)
 ·have hk:(k+(its.toArray.size:Int)).toNat=j:=by
   rw [seqIndex_neg (by omega) h3] at h1;rw [G0,← hl];exact Hd h1
  exact PySem.W.ki_setBack ho (by omega) (by rw [G0,← hl];exact h3) (by omega) (by rw [hk];exact ⟨_,I',q⟩)
theorem vz (lo hi:Option Int) (n:Nat):(sliceBounds lo hi none n).1=((HT.sIx n 0 lo:Nat):Int)/\(sliceBounds lo hi none n).2.1=((HT.sIx n n hi:Nat):Int)/\(sliceBounds lo hi none n).2.2=1:=by
 refine ⟨?_,?_,rfl⟩
 ·cases lo with
  | none=>simp [sliceBounds,HT.sIx]
  | some i =>
   simp only [sliceBounds,HT.sIx,Option.getD_none,show (1:Int)>0 by decide,if_true];by_cases h:i<0
   ·simp only [h,if_true] <;> omega
   ·simp only [h,if_false] <;> omega
 ·cases hi with
  | none=>simp [sliceBounds,HT.sIx]
  | some i =>
   simp only [sliceBounds,HT.sIx,Option.getD_none,show (1:Int)>0 by decide,if_true];by_cases h:i<0
   ·simp only [h,if_true] <;> omega
   ·simp only [h,if_false] <;> omega
theorem tL (its:List Gg) (lo hi:Option Int):slicePick its.toArray lo hi none=((its.drop (HT.sIx its.length 0 lo)).take (HT.sIx its.length its.length hi-HT.sIx its.length 0 lo)).toArray:=by
 obtain ⟨h1,h2,h3⟩:=vz lo hi its.toArray.size;unfold slicePick;rw [h1,h2,h3];simp only [sliceRange_one,pick_run,G0] <;> rfl
def rSlL (K:Gh):V->Option Int->Option Int->Hp->VK->Prop:=fun x lo hi H Q=>∃ a xs,x = .ref a/\SqL K H a xs/\∀ p,H p=none->Q (.ref p) (upd H p (.lst (cutV xs lo hi)))
theorem gy:SlR X (rSlL X.K):=by
 intro pins s σ H x v vl vu lo hi sl Q I rx hs pl pu h;obtain ⟨a,xs,rfl,hx,q⟩:=h;cases rx;obtain ⟨its,r,ht,hz⟩:=I.list hx;have hlen:=r.length;refine ⟨"list",_,slot_list_getitem.lookup,ht.isList.typeIs,?_⟩;refine wpAny_getItem_list_slice ht.isList hs pl pu .none (by simp) ?_ (by rw [G0] <;> omega)
 rw [tL,← hlen];refine ⟨.ref s.heap.objs.size,_,I.laid (t':=s.toks) (o := .lst (cutV xs lo hi)) (fun b ob q=>Gx _ q) (Go _) ?_,rfl,q _ (I.hok.fresh (Go _))⟩
 exact ⟨Ie (xG xs lo hi) hz,_,0,(r.drop (HT.sIx xs.length 0 lo)).take (HT.sIx xs.length xs.length hi-HT.sIx xs.length 0 lo),Hi _ rfl⟩
def pQ:V->Bool
 | .non=>true
 | .bl _=>true
 | .int _=>true
 | .str _=>true
 | _=>false
def eqV:V->V->Bool
 | .non,.non=>true
 | .bl a,.bl b=>a == b
 | .bl a,.int b=>(if a then 1 else 0) == b
 | .int a,.bl b=>a == (if b then 1 else 0)
 | .int a,.int b=>a == b
 | .str a,.str b=>a == b
 | _,_=>false
theorem eqAt_V {A:HB} {s:Gp} {y x:V} {u v:Gg} (ry:fE y u) (rx:fE x v) (fy:pQ y=true) (fx:pQ x=true):Iu A s u v (eqV y x):=by
 cases y with
 | non =>
  cases ry;cases x with
  | non=>cases rx;exact Iu.same _
  | bl b=>cases rx;exact Iu.none_bool b
  | int b=>obtain ⟨t,rfl⟩:=rx;exact Iu.none_int b t
  | str b=>obtain ⟨t,rfl⟩:=rx;exact Iu.none_str b t
  | _=>exact absurd (show false=true from fx) GI
 | bl a =>
  cases ry;cases x with
  | non=>cases rx;exact Iu.bool_none a
  | bl b=>cases rx;exact Iu.bool_bool a b
  | int b=>obtain ⟨t,rfl⟩:=rx;exact Iu.bool_int a b t
  | str b=>obtain ⟨t,rfl⟩:=rx;exact Iu.bool_str a b t
  | _=>exact absurd (show false=true from fx) GI
 | int a =>
  obtain ⟨t',rfl⟩:=ry;cases x with
  | non=>cases rx;exact Iu.int_none a t'
  | bl b=>cases rx;exact Iu.int_bool a t' b
  | int b=>obtain ⟨t,rfl⟩:=rx;exact Iu.int_int a t' b t
  | str b=>obtain ⟨t,rfl⟩:=rx;exact Iu.int_str a t' b t
  | _=>exact absurd (show false=true from fx) GI
 | str a =>
  obtain ⟨t',rfl⟩:=ry;cases x with
  | non=>cases rx;exact Iu.str_none a t'
  | bl b=>cases rx;exact Iu.str_bool a t' b
  | int b=>obtain ⟨t,rfl⟩:=rx;exact Iu.str_int a t' b t
  | str b=>obtain ⟨t,rfl⟩:=rx;exact Iu.str_str a t' b t
  | _=>exact absurd (show false=true from fx) GI
 | _=>exact absurd (show false=true from fy) GI
def eqU (x:V) (u:Gg):Bool:=match u with
 | .none=>eqV .non x
 | .bool b=>eqV (.bl b) x
 | .int i _=>eqV (.int i) x
 | .str z _=>eqV (.str z) x
 | _=>false
theorem DV {x y:V} {u:Gg} (r:fE y u) (f:pQ y=true):eqU x u=eqV y x:=by
 cases y with
 | non=>cases r;rfl
 | bl b=>cases r;rfl
 | int i=>obtain ⟨t,rfl⟩:=r;rfl
 | str z=>obtain ⟨t,rfl⟩:=r;rfl
 | _=>exact absurd (show false=true from f) GI
theorem vZ {x:V}:∀ {xs:List V} {us:List Gg},fu xs us->xs.all pQ=true->us.any (eqU x)=xs.any fun y=>eqV y x
 | _,_,.nil,_=>rfl
 | y::xs,u::us,.cons r t,f=>by
  rw [List.all_cons,G8] at f;rw [Km,Km,DV r f.1,vZ t f.2]
theorem sJ {A:HB} {s:Gp} {x:V} {v:Gg} (rx:fE x v) (fx:pQ x=true):∀ {xs:List V} {us:List Gg},fu xs us->xs.all pQ=true->∀ u∈us,Iu A s u v (eqU x u)
 | _,_,.nil,_=>fun u hu=>by cases hu
 | y::xs,u::us,.cons r t,f=>fun u' hu=>by
  rw [List.all_cons,G8] at f;rcases Gu.mp hu with rfl | hu
  ·rw [DV r f.1];exact eqAt_V r rx f.1 fx
  ·exact sJ rx fx t f.2 u' hu
def inV (x:V) (xs:List V):Bool:=xs.any fun y=>eqV y x
def rIn (K:Gh) (neg:Bool):R2:=fun x y H Q=>∃ p xs,y = .ref p/\(SqL K H p xs∨SqT K H p xs)/\pQ x=true/\xs.all pQ=true/\Q (.bl (if neg then !inV x xs else inV x xs)) H
theorem nI:OpR X (compareOp .In) (rIn X.K false):=by
 intro pins s σ H x y v u Q I rx ry h;obtain ⟨p,xs,rfl,hq,fx,fs,q⟩:=h;cases ry;rcases hq with hq | hq
 ·obtain ⟨its,r,pl,hz⟩:=I.list hq
  refine SeqAt.in_listAt (eqU x) pl.isList (fun w hw=>sJ rx fx r fs w (by simpa using hw)) ⟨.bl _,H,I,rfl,?_⟩
  rw [show its.toArray.any (eqU x)=its.any (eqU x) by simp,vZ r fs];exact q
 ·obtain ⟨its,r,pl,hz⟩:=I.tuple hq
  refine SeqAt.in_tupleAt (eqU x) pl (fun w hw=>sJ rx fx r fs w (by simpa using hw)) ⟨.bl _,H,I,rfl,?_⟩
  rw [show its.toArray.any (eqU x)=its.any (eqU x) by simp,vZ r fs];exact q
theorem eL:mo X (.builtin "len") (fun xs H Q=>∃ p ys,xs=[.ref p]/\(SqL X.K H p ys∨SqT X.K H p ys)/\Q (.int ys.length) H):=by
 intro pins s σ H xs us Q I r h;obtain ⟨p,ys,rfl,hq,q⟩:=h;obtain ⟨u,rfl,rx⟩:=vals1 r;cases rx;have hn:=line63;rcases hq with hq | hq
 ·obtain ⟨its,r',pl,hz⟩:=I.list hq
  have hlen:=r'.length;exact Calls.call_len_list pl.isList (by simp only [G0] <;> omega) ⟨.int ys.length,H,I.tok _,⟨s.toks+1,by rw [G0,hlen]⟩,q⟩
 ·obtain ⟨its,r',pl,hz⟩:=I.tuple hq
  have hlen:=r'.length;exact len_tuple pl (by simp only [G0] <;> omega) ⟨.int ys.length,H,I.tok _,⟨s.toks+1,by rw [G0,hlen]⟩,q⟩
theorem pV:mo X (.type "list") (fun xs H Q=>∃ p ys,xs=[.ref p]/\(SqL X.K H p ys∨SqT X.K H p ys)/\∀ l,H l=none->Q (.ref l) (upd H l (.lst ys))):=by
 intro pins s σ H xs us Q I r h;obtain ⟨p,ys,rfl,hq,q⟩:=h;obtain ⟨u,rfl,rx⟩:=vals1 r;cases rx;have fin:∀ (its:List Gg),fu ys its->ys.length<=sizeLine->∀ (h':GZ) (c':Nat),(∀ b o',s.heap.get? b=some o'->h'.get? b=some o') ->
   h'.get? s.heap.objs.size=some { cls := .type "list",dict:=none,data := .seq its.toArray c',slots:=#[] }->EP X pins σ Q (.ref s.heap.objs.size) { s with heap:=h' }:=fun its r' hz h' c' kp e =>
  ⟨.ref s.heap.objs.size,_,I.laid (t':=s.toks) kp (Go _) (show f8 X.prog X.w _ h' _ (.lst ys) from ⟨hz,its,c',r',e⟩),rfl,q _ (I.hok.fresh (Go _))⟩
 rcases hq with hq | hq
 ·obtain ⟨its,r',pl,hz⟩:=I.list hq
  have hlen:=r'.length;obtain ⟨o,ho,hc,n,hd⟩:=pl.isList;exact call_list_seq p (.inl rfl) ho hc hd (fun h' c' kp e=>fin its r' hz h' c' kp e) (by simp only [G0] <;> omega)
 ·obtain ⟨its,r',pl,hz⟩:=I.tuple hq
  have hlen:=r'.length;obtain ⟨o,ho,hc,n,hd⟩:=pl;exact call_list_seq p (.inr rfl) ho hc hd (fun h' c' kp e=>fin its r' hz h' c' kp e) (by simp only [G0] <;> omega)
theorem oo:mo X (.type "tuple") (fun xs H Q=>∃ p ys,xs=[.ref p]/\((SqL X.K H p ys/\∀ l,H l=none->Q (.ref l) (upd H l (.tup ys)))∨(SqT X.K H p ys/\Q (.ref p) H))):=by
 intro pins s σ H xs us Q I r h;obtain ⟨p,ys,rfl,h⟩:=h;obtain ⟨u,rfl,rx⟩:=vals1 r;cases rx;rcases h with ⟨hq,q⟩ | ⟨hq,q⟩
 ·obtain ⟨its,r',pl,hz⟩:=I.list hq
  have hlen:=r'.length;refine call_tuple_list pl.isList (fun h' kp=>?_) (by simp only [G0] <;> omega)
  have I1:Inv X pins σ H { s with heap:=h' }:=I.kept (t':=s.toks) kp
  have I2:Inv X pins σ (upd H h'.objs.size (.tup ys)) { s with heap:=h'.push { cls := .type "tuple",data := .seq its.toArray } } :=
   I1.laid (t':=s.toks) (fun b o e=>Gx _ e) (Go _) (show f8 X.prog X.w _ _ _ (.tup ys) from ⟨hz,its,r',IsTup.new _ _⟩)
  exact ⟨.ref h'.objs.size,_,I2,rfl,q _ (I1.hok.fresh (Go _))⟩
 ·obtain ⟨its,r',pl,hz⟩:=I.tuple hq
  exact call_tuple_same pl ⟨.ref p,H,I,rfl,q⟩
def tyV (K:Gh) (T:String) (x:V) (H:Hp):Prop:=match x with
 | .str _=>T = "str"
 | .int _=>T = "int"
 | .ref p=>(T = "list" /\ ∃ xs,SqL K H p xs)∨(T = "tuple" /\ ∃ o,K.lookup p=some o/\o.cls = .type "tuple" /\ o.dict=none) ∨
   (T = "dict" /\ ((∃ kvs,H p=some (.dK kvs))∨∃ kvs,H p=some (.dT kvs)))∨(T = "set" /\ ∃ S n,H p=some (.set S n))
 | _=>False
theorem BN {pins:List (Gf×Io)} {σ:St} {H:Hp} {s:Gp} {T:String} {x:V} {v:Gg} (I:Inv X pins σ H s) (r:fE x v) (ty:tyV X.K T x H) :
  s.TypeIs v T/\∀ a,v = .ref a->∃ ob,s.heap.get? a=some ob/\ob.dict=none:=by
 cases x with
 | str z =>
  obtain ⟨t,rfl⟩:=r;cases (show T = "str" from ty);exact ⟨typeIs_str s z t,fun _ e=>nomatch e⟩
 | int i =>
  obtain ⟨t,rfl⟩:=r;cases (show T = "int" from ty);exact ⟨typeIs_int s i t,fun _ e=>nomatch e⟩
 | ref p =>
  cases r;rcases ty with ⟨rfl,xs,hq⟩ | ⟨rfl,o,hk,hc,hd⟩ | ⟨rfl,hk⟩ | ⟨rfl,S,n,hk⟩
  ·obtain ⟨its,_,pl,_⟩:=I.list hq
   refine ⟨pl.isList.typeIs,fun a e=>?_⟩
   cases e;obtain ⟨o,n,e,c,hd,_⟩:=pl;exact ⟨o,e,hd⟩
  ·refine ⟨⟨o,I.kIn p o hk,hc⟩,fun a e=>?_⟩
   cases e;exact ⟨o,I.kIn _ o hk,hd⟩
  ·have z:∃ o,s.heap.get? p=some o/\o.ExactDict:=by
    rcases hk with ⟨kvs,hk⟩ | ⟨kvs,hk⟩
    ·obtain ⟨_,_,_,_,o,_,_,e,ex,_⟩:=I.hok p _ hk
     exact ⟨o,e,ex⟩
    ·obtain ⟨_,_,_,_,o,_,_,e,ex,_⟩:=I.hok p _ hk
     exact ⟨o,e,ex⟩
   obtain ⟨o,e,ex⟩:=z;refine ⟨⟨o,e,ex.1⟩,fun a e2=>?_⟩
   cases e2;exact ⟨o,e,ex.2.1⟩
  ·obtain ⟨o,_,_,_,e,ex,_⟩:=I.hok p _ hk
   refine ⟨⟨o,e,ex.1⟩,fun a e2=>?_⟩
   cases e2;exact ⟨o,e,ex.2.1⟩
 | _=>exact HW ty
def tBM0 (K:Gh) (T:String) (r:V->List V->Hp->VK->Prop) (to:TE):TE:=fun σ H Q=>to σ H fun x H1=>tyV K T x H1/\r x [] H1 Q
def tBM (K:Gh) (T:String) (r:V->List V->Hp->VK->Prop) (to:TE) (t:TA):TE:=fun σ H Q=>to σ H fun x H1=>tyV K T x H1/\t σ H1 fun xs H2=>r x xs H2 Q
variable {o e:HM} {es:List HM} {to:TE} {t:TA} {name:G9} {apos cpos:Kv} {T id:String} {r:V->List V->Hp->VK->Prop}
theorem pe_bm0 (pa:PlainAttrs T) (slot:Slot T name id) (hty:typeOf (.builtin id)=pure (.type "method_descriptor")) (hm:MtR X id r) (ho:PE X o to)
  (hbase:attributeBase o name X.env (eval o X.env)=eval o X.env:=by rfl) (hline:(apos.endLine == cpos.line)=true:=by rfl):PE X (.Call (.Attribute o name apos) [] [] cpos) (tBM0 X.K T r to):=by
 intro pins s σ H Q I h;refine wpAny_Call_method0_late hbase hline (thn (ho pins s σ H _ I h) fun v s1 ⟨x,H1,I1,r1,ty,q1⟩=>?_)
 obtain ⟨h1,h2⟩:=BN I1 r1 ty;exact ⟨T,id,pa,slot,hty,h1,h2,Ld rfl (PySem.evalArgs_none (hm pins s1 σ H1 x [] v [] Q I1 r1 .nil q1))⟩
theorem gm (pa:PlainAttrs T) (slot:Slot T name id) (hty:typeOf (.builtin id)=pure (.type "method_descriptor")) (hm:MtR X id r) (ho:PE X o to) (ha:PA X (e::es) t)
  (hbase:attributeBase o name X.env (eval o X.env)=eval o X.env:=by rfl)
  (hfew:((backTo cpos (starEach (e::es) X.env)).all (fun x => !x.1) && (backToKw cpos (keywordEach [] X.env)).all (fun x=>x.1.isSome)
   && decide ((e::es).length+([]:List Keyword).length+(if ([]:List Keyword).isEmpty then 0 else 1)<30))=true:=by rfl)
  (hline:(apos.endLine == cpos.line)=true:=by rfl) (hs:starEach (e::es) X.env=(false,eval e X.env)::starEach es X.env:=by rfl) (hplain:(backTo cpos (starEach es X.env)).any (·.1)=false:=by rfl) :
  PE X (.Call (.Attribute o name apos) (e::es) [] cpos) (tBM X.K T r to t):=by
 intro pins s σ H Q I h;refine wpAny_Call_method_late hbase hfew hline rfl (thn (ho pins s σ H _ I h) fun v s1 ⟨x,H1,I1,r1,ty,q1⟩=>?_)
 obtain ⟨h1,h2⟩:=BN I1 r1 ty;refine ⟨T,id,pa,slot,hty,h1,h2,?_⟩;have hA:=ha cpos pins s1 σ H1 _ I1 q1;rw [hs] at hA ⊢;refine Ld (by show (false || (backTo cpos (starEach es X.env)).any (·.1))=false;rw [hplain] <;> rfl) (Calls.evalArgs_plain ?_)
 exact thn hA fun us s2 ⟨vs,H2,I2,r2,q2⟩=>hm pins s2 σ H2 x vs v us Q I2 r1 r2 q2
end
end L2
namespace L2
open PySem PySem.Spec PyProof.Rows
def MtM (X:Cx) (id:String) (r:V->List V->Hp->VK->Prop):Prop :=
 ∀ (pins:List (Gf×Io)) (s:Gp) (σ:St) (H:Hp) (x:V) (xs:List V) (v:Gg) (us:List Gg) (Q:VK),Inv X pins σ H s->fE x v->fu xs us->r x xs H Q ->
  wpAny (model X.prog X.w) X.A (call (.builtin id) (v::us)) (EP X pins σ Q) X.xe s
theorem fu.one:∀ {x:V} {us:List Gg},fu [x] us->∃ u,us=[u]/\fE x u
 | _,_,.cons r .nil=>⟨_,rfl,r⟩
theorem fu.zero:∀ {us:List Gg},fu [] us->us=[]
 | _,.nil=>rfl
theorem fu.reverse {xs:List V} {us:List Gg} (h:fu xs us):fu xs.reverse us.reverse:=by
 induction h with
 | nil=>exact .nil
 | cons r t ih=>rw [LV,LV];exact fu.append ih (.cons r .nil)
theorem fu.rep {xs:List V} {us:List Gg} (h:fu xs us):∀ k:Nat,fu (Gq k xs).flatten (Gq k us).flatten
 | 0 => .nil
 | k+1=>by
  rw [Ia,Ia,JG,JG];exact fu.append h (fu.rep h k)
theorem uO (its:List Gg):∀ (k:Nat) (acc:List Gg),
  List.foldl (fun x1 x2=>x1++x2) acc.toArray (Gq k its.toArray)=(acc++(Gq k its).flatten).toArray
 | 0,acc=>by simp
 | k+1,acc=>by
  have e:acc.toArray++its.toArray=(acc++its).toArray:=by simp
  have e2:(acc++its)++(Gq k its).flatten=acc++(Gq (k+1) its).flatten:=by
   rw [Ia,JG,Hx]
  rw [← e2,← uO its k (acc++its),← e,Ia,List.foldl_cons]
section
variable {X:Cx} {pins:List (Gf×Io)} {σ:St} {H:Hp} {s:Gp} {l b:Gf} {xs ys zs:List V}
theorem Inv.lset {its its':List Gg} {n:Nat} {f:Array Gg->Array Gg} {t':Nat} (I:Inv X pins σ H s) (hH:H l=some (.lst xs))
  (e:s.heap.get? l=some { cls := .type "list",data := .seq its.toArray n }) (hf:f its.toArray=its'.toArray) (hv:fu ys its') (hz:ys.length<=sizeLine) :
  Inv X pins σ (upd H l (.lst ys)) { s with heap:=s.heap.update l (Lh f),toks:=t' }:=by
 have q:=PySem.IsL.update e f;rw [hf] at q;refine I.write (x:=l) (e:=l) (by rw [hH];exact trivial) (.inl rfl) (fun b' u hb hu=>(HK s.heap (Lh f) (HA hb)).trans hu) ⟨_,q⟩ ?_
 exact ⟨hz,its',_,hv,q⟩
theorem Inv.lnew {its:List Gg} {t':Nat} (I:Inv X pins σ H s) (hv:fu ys its) (hz:ys.length<=sizeLine) :
  Inv X pins σ (upd H s.heap.objs.size (.lst ys)) { s with heap:=s.heap.push { cls := .type "list",data := .seq its.toArray },toks:=t' } :=
 I.laid (fun _ _ q=>Gx _ q) (Go _) ⟨hz,its,0,hv,Hi _ rfl⟩
theorem Inv.fresh (I:Inv X pins σ H s):H s.heap.objs.size=none:=I.hok.fresh (Go _)
theorem Inv.lstM (I:Inv X pins σ H s) (hH:H l=some (.lst xs)):xs.length<=sizeLine/\∃ (its:List Gg) (n:Nat),fu xs its/\xs.length=its.length/\s.heap.get? l=some { cls := .type "list",data := .seq its.toArray n }:=by
 obtain ⟨z,its,n,r,e⟩:=I.hok l _ hH;exact ⟨z,its,n,r,r.length,e⟩
theorem sH {n:Nat} (h:n<=sizeLine):IN n=false:=by
 unfold IN;exact Gc (by omega)
end
section
variable {X:Cx}
def EO:V->List V->Hp->VK->Prop:=fun x vs H Q=>∃ l xs y,x = .ref l/\vs=[y]/\H l=some (.lst xs)/\xs.length<sizeLine/\Q .non (upd H l (.lst (xs++[y])))
theorem gG:MtM X "list.append" EO:=by
 intro pins s σ H x vs v us Q I rx rv h;obtain ⟨l,xs,y,rfl,rfl,hH,hz,q⟩:=h;cases rx;obtain ⟨u,rfl,ru⟩:=rv.one;obtain ⟨z,its,n,r,hl,e⟩:=I.lstM hH;refine K3 F.slot_list_append ⟨_,e,rfl⟩ F.entry_list_append (F.args_list_append_2 _ _) (PySem.list_append l its.toArray n u (by rw [G0];omega)) ⟨e,?_⟩;refine ⟨.non,_,I.lset (its':=its++[u]) hH e (by simp) (r.append (.cons ru .nil)) ?_,rfl,q⟩;rw [Gi,List.length_singleton];omega
def EN:V->List V->Hp->VK->Prop:=fun x vs H Q=>∃ l b xs zs,x = .ref l/\vs=[.ref b]/\H l=some (.lst xs)/\H b=some (.lst zs)/\xs.length+zs.length<=sizeLine/\Q .non (upd H l (.lst (xs++zs)))
theorem fQ:MtM X "list.extend" EN:=by
 intro pins s σ H x vs v us Q I rx rv h;obtain ⟨l,b,xs,zs,rfl,rfl,hH,hB,hz,q⟩:=h;cases rx;obtain ⟨u,rfl,ru⟩:=rv.one;cases ru;obtain ⟨z,its,n,r,hl,e⟩:=I.lstM hH;obtain ⟨z2,its2,n2,r2,hl2,e2⟩:=I.lstM hB;have hsz:its.toArray.size+its2.toArray.size<=sizeLine:=by rw [G0,G0];omega
 have hlong:¬ (!its.toArray.isEmpty && IN (its.toArray.size+its2.toArray.size))=true:=by
  rw [sH hsz,Bool.and_false];exact GI
 refine K3 F.slot_list_extend ⟨_,e,rfl⟩ F.entry_list_extend (F.args_list_extend_2 _ _)
  (AutoSeq1.list_extend_list_list_0 l its.toArray n b its2.toArray n2 hlong (by rw [G0];omega) (by omega)) ⟨e,e2,?_⟩
 refine ⟨.non,_,I.lset (its':=its++its2) hH e (by simp) (r.append r2) ?_,rfl,q⟩;rw [Gi];omega
def CL:V->List V->Hp->VK->Prop:=fun x vs H Q=>∃ l xs,x = .ref l/\vs=[]/\H l=some (.lst xs)/\Q .non (upd H l (.lst xs.reverse))
theorem yF:MtM X "list.reverse" CL:=by
 intro pins s σ H x vs v us Q I rx rv h;obtain ⟨l,xs,rfl,rfl,hH,q⟩:=h;cases rx;have hus:=rv.zero;subst hus;obtain ⟨z,its,n,r,hl,e⟩:=I.lstM hH;refine K3 F.slot_list_reverse ⟨_,e,rfl⟩ F.entry_list_reverse (F.args_list_reverse_1 _) (AutoSeq1.list_reverse_list_0 l its.toArray n (by rw [G0];omega)) ⟨e,?_⟩;refine ⟨.non,_,I.lset (its':=its.reverse) hH e (by simp) r.reverse ?_,rfl,q⟩;rw [KE];omega
def rCat:R2:=fun x y H Q=>∃ l b xs zs,x = .ref l/\y = .ref b/\H l=some (.lst xs)/\H b=some (.lst zs)/\xs.length+zs.length<=sizeLine/\∀ p,H p=none->Q (.ref p) (upd H p (.lst (xs++zs)))
theorem l9:OpR X (binaryOp .Add) rCat:=by
 intro pins s σ H x y v u Q I rx ry h;obtain ⟨l,b,xs,zs,rfl,rfl,hH,hB,hz,q⟩:=h;cases rx;cases ry;obtain ⟨z,its,n,r,hl,e⟩:=I.lstM hH;obtain ⟨z2,its2,n2,r2,hl2,e2⟩:=I.lstM hB;refine PySem.P.add_list e e2 ?_ (by rw [G0,G0];omega);have ea:its.toArray++its2.toArray=(its++its2).toArray:=by simp
 rw [ea];exact ⟨.ref _,_,I.lnew (t':=s.toks) (r.append r2) (by rw [Gi];omega),rfl,q _ I.fresh⟩
def rRep:R2:=fun x y H Q=>∃ l k xs,x = .ref l/\y = .int k/\H l=some (.lst xs) /\ -(2 ^ 63)<=k/\k<2 ^ 63/\xs.length*k.toNat<=sizeLine /\
 ∀ p,H p=none->Q (.ref p) (upd H p (.lst (Gq k.toNat xs).flatten))
theorem Ft {α:Type} (xs:List α) (k:Nat):(Gq k xs).flatten.length=k*xs.length:=by
 induction k with
 | zero=>simp
 | succ k ih=>rw [Ia,JG,Gi,ih,Nat.succ_mul,Nat.add_comm]
theorem yr:OpR X (binaryOp .Mult) rRep:=by
 intro pins s σ H x y v u Q I rx ry h;obtain ⟨l,k,xs,rfl,rfl,hH,h1,h2,hz,q⟩:=h;cases rx;obtain ⟨t,rfl⟩:=ry;obtain ⟨z,its,n,r,hl,e⟩:=I.lstM hH;have hlen:its.toArray.size*k.toNat<=sizeLine:=by rw [G0,← hl];exact hz
 have hcap:¬ its.toArray.size*k.toNat>(2 ^ 63-1) / 8:=by
  have:(sizeLine:Nat)<=(2 ^ 63-1) / 8:=by decide
  omega
 have hfit:¬ (!Ht.List.listFitsIndex k)=true:=by
  rw [fitsIndex_both h1 h2];exact GI
 have hlong:¬ IN (its.toArray.size*k.toNat)=true:=by
  rw [sH hlen];exact GI
 have hnew:List.foldl (fun x1 x2=>x1++x2) #[] (Gq (if its.toArray.isEmpty=true then 0 else k.toNat) its.toArray)=(Gq k.toNat its).flatten.toArray:=by
  have f0:∀ m:Nat,List.foldl (fun x1 x2=>x1++x2) #[] (Gq m its.toArray)=(Gq m its).flatten.toArray:=fun m=>by
   have:=uO its m [];rw [List.nil_append] at this;exact this
  rw [f0];cases its with
  | nil=>simp
  | cons a r'=>rw [F9 (by simp)]
 refine wpAny_binaryOp_repeat_ref (T := "list") (U := "int") (by decide) ⟨_,e,rfl⟩ (fun s'=>typeIs_int s' k t) noFill_list_mul F.fills_int_mul F.slot_int_rmul repeat_list F.slot_int_index.lookup
  (K3 F.slot_int_rmul (typeIs_int s k t) F.entry_int_rmul (F.args_int_rmul_2 _ _) (int___rmul___int_list k t l its.toArray n)
   ⟨e,rfl,⟨_,e,rfl⟩,K3 F.slot_list_mul ⟨_,e,rfl⟩ F.entry_list_mul (F.args_list_mul_2 _ _) (AutoListH.list___mul___list_int_3 l its.toArray n k t hfit hcap hlong) ⟨e,?_⟩⟩)
 rw [hnew];exact ⟨.ref _,_,I.lnew (t':=s.toks) (r.rep k.toNat) (by rw [Ft,Nat.mul_comm];exact hz),rfl,q _ I.fresh⟩
end
section
variable {prog:Hk} {w:Hy} {A:HB} {E:Gg->Gp->Prop} {s:Gp}
end
section
variable {X:Cx}
end
end L2
namespace L2
open PySem PySem.Spec PyProof.Rows
theorem fu.ints:∀ {ns:List Int} {us:List Gg},fu (ns.map V.int) us->LA us ns
 | [],us,h=>by
  rw [KL] at h;cases h;exact LA.nil
 | n::ns,us,h=>by
  rw [Hs] at h;cases h with
  | cons r t =>
   obtain ⟨k,rfl⟩:=r;exact LA.cons n k (fu.ints t)
theorem oS:∀ {us:List Gg} {ns:List Int},LA us ns->fu (ns.map V.int) us
 | _,_,.nil=>by rw [KL];exact Jg.nil
 | _,_,.cons n t h=>by rw [Hs];exact Jg.cons (show fE (V.int n) (K4 n t) from ⟨t,rfl⟩) (oS h)
theorem fu.ref1 {a:Gf} {us:List Gg} (r:fu [V.ref a] us):us=[Hq a]:=by
 cases r with
 | cons r t =>
  cases t;cases r;rfl
section
variable {prog:Hk} {w:Hy} {A:HB} {E:Gg->Gp->Prop} {s:Gp} {l:Gf} {its:List Gg} {ns:List Int} {Q:Gg->Gp->Prop}
theorem Ew (hh:A.handled=none) (hl:s.heap.IsList l its.toArray) (hi:LA its ns)
  (h:∀ h' tk t',(∀ b o,s.heap.get? b=some o->h'.get? b=some o)->Q (.int ns.sum t') { s with heap:=h',toks:=tk }):wpAny (model prog w) A (call (.builtin "sum") [.ref l]) Q E s:=by
 obtain ⟨xs,e⟩:=hi.allInts.items;have hn:numsOf (intItems xs).toList=ns:=by rw [← e];exact hi.numsOf
 rw [nums_intItems] at hn;rw [e] at hl;refine PySem.sum_intListG hh hl fun h' tk t' hk=>?_
 have:=h h' tk t' hk;rw [preSum_eq,Im (by simp),hn];exact this
theorem Fs (hh:A.handled=none) (hl:s.heap.IsList l its.toArray) (hi:LA its ns) (hne:0<ns.length)
  (h:∀ h' tk M t',(∀ b o,s.heap.get? b=some o->h'.get? b=some o)->M∈ns->(∀ a,a∈ns->a<=M)->Q (.int M t') { s with heap:=h',toks:=tk }):wpAny (model prog w) A (call (.builtin "max") [.ref l]) Q E s:=by
 obtain ⟨xs,e⟩:=hi.allInts.items;have hn:numsOf (intItems xs).toList=ns:=by rw [← e];exact hi.numsOf
 rw [nums_intItems] at hn;subst hn;rw [e] at hl;have hsz:0<xs.size:=by simpa using hne
 refine PySem.max_intList hh hl hsz fun v h' tk hv hk=>?_
 obtain ⟨t,rfl⟩:=intItems_at hv;obtain ⟨h1,h2⟩:=argBest_gt (numAt xs) (xs.size-1);refine h h' tk _ t hk ?_ fun a ha=>?_
 ·rw [numAt_eq];exact PySem.getD_mem (by rw [Ge,IC];omega)
 ·obtain ⟨j,hj,rfl⟩:=mem_getD ha
  rw [Ge,IC] at hj;rw [← numAt_eq];exact h2 j (by omega)
end
section
variable {X:Cx}
def rSum (K:Gh):List V->Hp->VK->Prop:=fun vs H Q=>∃ (a:Gf) (ns:List Int),vs=[V.ref a]/\SqL K H a (ns.map V.int)/\Q (.int ns.sum) H
def rMax (K:Gh):List V->Hp->VK->Prop:=fun vs H Q=>∃ (a:Gf) (ns:List Int),vs=[V.ref a]/\SqL K H a (ns.map V.int)/\0<ns.length/\∀ m,m∈ns->(∀ y,y∈ns->y<=m)->Q (.int m) H
theorem cr_sum (hc:X.calm=true):mo X (.builtin "sum") (rSum X.K):=by
 intro pins s σ H vs us Q I r h;obtain ⟨a,ns,rfl,hs,q⟩:=h;obtain ⟨its,rv,hl,_⟩:=I.list hs;rw [fu.ref1 r];exact Ew (I.ok.hd hc) hl.isList rv.ints fun h' tk t' hk=>⟨.int _,H,I.kept hk,⟨_,rfl⟩,q⟩
theorem cr_max (hc:X.calm=true):mo X (.builtin "max") (rMax X.K):=by
 intro pins s σ H vs us Q I r h;obtain ⟨a,ns,rfl,hs,hne,q⟩:=h;obtain ⟨its,rv,hl,_⟩:=I.list hs;rw [fu.ref1 r];exact Fs (I.ok.hd hc) hl.isList rv.ints hne fun h' tk m t' hk h1 h2=>⟨.int _,H,I.kept hk,⟨_,rfl⟩,q m h1 h2⟩
end
section
variable {X:Cx}
end
section
variable {X:Cx}
end
section
variable {X:Cx}
end
mutual
inductive Dp (K:Gh) (H:Hp):V->HZ->Prop
 | non:Dp K H .non .none
 | bl (b:Bool):Dp K H (.bl b) (.bool b)
 | int (i:Int):Dp K H (.int i) (.int i)
 | str (x:G9):Dp K H (.str x) (.str x)
 | lst {a:Gf} {xs:List V} {ds:List HZ}:SqL K H a xs->qS K H xs ds->Dp K H (.ref a) (.list ds)
 | tup {a:Gf} {xs:List V} {ds:List HZ}:SqT K H a xs->qS K H xs ds->Dp K H (.ref a) (.tuple ds)
inductive qS (K:Gh) (H:Hp):List V->List HZ->Prop
 | nil:qS K H [] []
 | cons {v:V} {vs:List V} {d:HZ} {ds:List HZ}:Dp K H v d->qS K H vs ds->qS K H (v::vs) (d::ds)
end
section
variable {X:Cx} {pins:List (Gf×Io)} {σ:St} {H:Hp} {s:Gp}
mutual
theorem Dp.reads (I:Inv X pins σ H s):∀ (d:HZ) (v:V) (u:Gg),Dp X.K H v d->fE v u->∃ as,Reads s.heap u d as
 | .none,_,_,h,r=>by
  cases h;cases r;exact ⟨_,Reads.none⟩
 | .bool b,_,_,h,r=>by
  cases h;cases r;exact ⟨_,Reads.bool b⟩
 | .int i,_,_,h,r=>by
  cases h;obtain ⟨t,rfl⟩:=r;exact ⟨_,Reads.int i t⟩
 | .str x,_,_,h,r=>by
  cases h;obtain ⟨t,rfl⟩:=r;exact ⟨_,Reads.str x t⟩
 | .list ds,_,_,h,r=>by
  cases h with
  | lst hs ha =>
   cases r;obtain ⟨its,rv,⟨o,n,ho,hc,_,hd⟩,_⟩:=I.list hs;obtain ⟨as,hr⟩:=Dp.readsAll I ds _ its ha rv;exact ⟨_,Reads.list ho hc hd hr⟩
 | .tuple ds,_,_,h,r=>by
  cases h with
  | tup hs ha =>
   cases r;obtain ⟨its,rv,⟨o,ho,hc,n,hd⟩,_⟩:=I.tuple hs;obtain ⟨as,hr⟩:=Dp.readsAll I ds _ its ha rv;exact ⟨_,Reads.tuple ho hc hd hr⟩
 | .dict _,_,_,h,_=>by cases h
theorem Dp.readsAll (I:Inv X pins σ H s):∀ (ds:List HZ) (vs:List V) (us:List Gg),qS X.K H vs ds->fu vs us->∃ as,ReadsAll s.heap us ds as
 | [],_,_,h,r=>by
  cases h;cases r;exact ⟨_,ReadsAll.nil⟩
 | d::ds,_,_,h,r=>by
  cases h with
  | cons h1 h2 =>
   cases r with
   | cons r1 r2 =>
    obtain ⟨as,q1⟩:=Dp.reads I d _ _ h1 r1;obtain ⟨bs,q2⟩:=Dp.readsAll I ds _ _ h2 r2;exact ⟨_,ReadsAll.cons q1 q2⟩
end
end
section
variable {X:Cx}
def rEqD (K:Gh):R2:=fun x y H Q=>∃ d e,Dp K H x d/\Dp K H y e/\Jj d=true/\Jj e=true/\Q (.bl (Kf d e)) H
def rNeD (K:Gh):R2:=fun x y H Q=>∃ d e,Dp K H x d/\Dp K H y e/\Jj d=true/\Jj e=true/\Q (.bl (!Kf d e)) H
theorem sG (hu:X.A.units+64<cLine):OpR X (compareOp .Eq) (rEqD X.K):=by
 intro pins s σ H x y v u Q I rx ry h;obtain ⟨d,e,hd,he,sd,se,q⟩:=h;obtain ⟨as,r1⟩:=Dp.reads I d x v hd rx;obtain ⟨bs,r2⟩:=Dp.reads I e y u he ry;exact SeqAt.compareEq_shaped r1 r2 sd se hu ⟨.bl _,H,I,rfl,q⟩
theorem C3 (hu:X.A.units+64<cLine):OpR X (compareOp .NotEq) (rNeD X.K):=by
 intro pins s σ H x y v u Q I rx ry h;obtain ⟨d,e,hd,he,sd,se,q⟩:=h;obtain ⟨as,r1⟩:=Dp.reads I d x v hd rx;obtain ⟨bs,r2⟩:=Dp.reads I e y u he ry;exact SeqAt.compareNe_shaped r1 r2 sd se hu ⟨.bl _,H,I,rfl,q⟩
end
end L2
namespace L2
open PySem PySem.Spec PyProof.Rows
abbrev Ek (h:GZ) (c:Gf) (v:Option Gg):Prop:=h.IsCell c v
def relS (scope sc:JL):JL :=
 { scope with names:=scope.names.map fun (n,k)=>if (k == .free && sc.kind == .function && sc.names.lookup n == some .cell) then (n,.cell) else (n,k) }
def cloFrom (cells:List (G9×Gf)):List (G9×IB)->List (G9×Gf)->List (G9×Gf)
 | [],acc=>acc
 | (n,k)::r,acc=>if k == .free then cloFrom cells r ((n,(cells.lookup n).getD 0)::acc) else cloFrom cells r acc
theorem pU (env:L5) (f:G9×IB->List (G9×Gf)->Sem (ForInStep (List (G9×Gf))))
  (hf:∀ n k c,f (n,k) c=if k == .free then (do let a ← cellOf env n;pure (.yield ((n,a)::c))) else pure (.yield c)) :
  ∀ (names:List (G9×IB)) (acc:List (G9×Gf)),(∀ y∈names,y.2 = .free->∃ c,env.cells.lookup y.1=some c)->forIn names acc f=pure (cloFrom env.cells names acc)
 | [],acc,_=>by rw [List.forIn_nil];rfl
 | (n,k)::r,acc,h=>by
  rw [List.forIn_cons,hf];have ih:=fun acc=>pU env f hf r acc fun y hy=>h y (G3 _ hy)
  unfold cloFrom;by_cases hk:(k == Kd)=true
  ·rw [Ga hk,Ga hk]
   obtain ⟨c,hc⟩:=h (n,k) Hf (by simpa using hk);have e:cellOf env n=pure c:=by unfold cellOf;rw [hc]
   rw [e];have e2:(env.cells.lookup n).getD 0=c:=by rw [hc];rfl
   rw [e2];exact ih _
  ·rw [F9 hk,F9 hk]
   exact ih _
theorem yR {scope:JL} {env:L5} (h:∀ y∈scope.names,y.2 = .free->∃ c,env.cells.lookup y.1=some c):closureFor scope env=pure (cloFrom env.cells scope.names []):=by
 simp only [closureFor];rw [pU env _ (fun n k c=>rfl) scope.names [] h]
 rfl
theorem oG {α:Type}:∀ {l:List (G9×α)} {n:G9} {c:α},(n,c)∈l->∃ c',l.lookup n=some c'
 | (k,v)::r,n,c,h=>by
  rw [HX];cases hb:n == k with
  | true=>exact ⟨_,rfl⟩
  | false =>
   rcases Gu.mp h with e | h
   ·cases e;simp at hb
   ·exact oG h
theorem kI {cells:List (G9×Gf)}:∀ {names:List (G9×IB)} {acc:List (G9×Gf)} {n:G9} {c:Gf},(n,c)∈cloFrom cells names acc->(n,c)∈acc∨((n,.free)∈names/\c=(cells.lookup n).getD 0)
 | [],_,_,_,h => .inl h
 | (m,k)::r,acc,n,c,h=>by
  unfold cloFrom at h;split at h
  ·rename_i hk
   have hk:k = .free:=by simpa using hk
   rcases kI h with h | ⟨h1,h2⟩
   ·rcases Gu.mp h with e | h
    ·cases e;exact .inr ⟨hk▸Hf,rfl⟩
    ·exact .inl h
   ·exact .inr ⟨G3 _ h1,h2⟩
  ·rcases kI h with h | ⟨h1,h2⟩
   ·exact .inl h
   ·exact .inr ⟨G3 _ h1,h2⟩
theorem mX {cells:List (G9×Gf)}:∀ {names:List (G9×IB)} {acc:List (G9×Gf)} {p:G9×Gf},p∈acc->p∈cloFrom cells names acc
 | [],_,_,h=>h
 | (m,k)::r,acc,p,h=>by
  unfold cloFrom;split
  ·exact mX (G3 _ h)
  ·exact mX h
theorem mW {cells:List (G9×Gf)}:∀ {names:List (G9×IB)} {acc:List (G9×Gf)} {n:G9},(n,.free)∈names->(n,(cells.lookup n).getD 0)∈cloFrom cells names acc
 | (m,k)::r,acc,n,h=>by
  unfold cloFrom;rcases Gu.mp h with e | h
  ·cases e
   exact mX Hf
  ·split
   ·exact mW h
   ·exact mW h
theorem lG:∀ {names:List (G9×IB)} {h:GZ} {acc:List (G9×Gf)} {x:G9} {c:Gf},(x,c)∈cellsFrom h.objs.size names acc ->
  (x,c)∈acc∨((x,.cell)∈names/\h.objs.size<=c/\Ek (pushCells h names) c none)
 | [],_,_,_,_,h => .inl h
 | (n,k)::r,h,acc,x,c,hm=>by
  unfold cellsFrom at hm;unfold pushCells;split at hm
  ·rename_i hk
   rw [Ga hk];have hk:k = .cell:=by simpa using hk
   rw [← Iz h { cls := .type "cell",data := .cell none }] at hm;rcases lG hm with hm | ⟨h1,h2,h3⟩
   ·rcases Gu.mp hm with e | hm
    ·cases e
     exact .inr ⟨hk▸Hf,Go _,_,LC r _ _ _ (Hi _ rfl),rfl⟩
    ·exact .inl hm
   ·rw [Iz] at h2
    exact .inr ⟨G3 _ h1,K1 h2,h3⟩
  ·rename_i hk
   rw [F9 hk];rcases lG hm with hm | ⟨h1,h2,h3⟩
   ·exact .inl hm
   ·exact .inr ⟨G3 _ h1,h2,h3⟩
theorem n9:∀ {names:List (G9×IB)} {n:Nat} {acc:List (G9×Gf)} {p:G9×Gf},p∈acc->p∈cellsFrom n names acc
 | [],_,_,_,h=>h
 | (m,k)::r,n,acc,p,h=>by
  unfold cellsFrom;split
  ·exact n9 (G3 _ h)
  ·exact n9 h
theorem qG:∀ {names:List (G9×IB)} {n:Nat} {acc:List (G9×Gf)} {x:G9},(x,.cell)∈names->∃ c,(x,c)∈cellsFrom n names acc
 | (m,k)::r,n,acc,x,h=>by
  unfold cellsFrom;rcases Gu.mp h with e | h
  ·cases e
   exact ⟨n,n9 Hf⟩
  ·split
   ·exact qG h
   ·exact qG h
theorem qF:∀ {names:List (G9×IB)} {h:GZ} {acc:List (G9×Gf)} {x y:G9} {c:Gf},(∀ p∈acc,p.2<h.objs.size)->(∀ x y c,(x,c)∈acc->(y,c)∈acc->x=y) ->
  (x,c)∈cellsFrom h.objs.size names acc->(y,c)∈cellsFrom h.objs.size names acc->x=y
 | [],_,_,_,_,_,_,hi,h1,h2=>hi _ _ _ h1 h2
 | (n,k)::r,h,acc,x,y,c,hl,hi,h1,h2=>by
  unfold cellsFrom at h1 h2;split at h1
  ·rename_i hk
   rw [Ga hk] at h2;rw [← Iz h { cls := .type "cell",data := .cell none }] at h1 h2;refine qF (h:=h.push _) (fun p hp=>?_) (fun x y c a b=>?_) h1 h2
   ·rw [Iz]
    rcases Gu.mp hp with rfl | hp
    ·exact Mb _
    ·exact K0 (hl p hp)
   ·rcases Gu.mp a with e | a <;> rcases Gu.mp b with e' | b
    ·cases e;cases e';rfl
    ·cases e;exact absurd (hl _ b) (IL _)
    ·cases e';exact absurd (hl _ a) (IL _)
    ·exact hi _ _ _ a b
  ·rename_i hk
   rw [F9 hk] at h2;exact qF hl hi h1 h2
theorem xk {M:Model} {A:HB} {E:Gg->Gp->Prop} {s:Gp} {scope:JL} {globals:Gf} {closure:List (G9×Gf)} {qual:G9} {func:Option Gf} {code:Gg} {around:L5} {builtins:Gf} {Q:L5->Gp->Prop}
  (h:Q (newEnv scope s.heap.objs.size globals (cellsFrom (s.heap.objs.size+1) scope.names closure) qual func code (some around) builtins)
   { s with heap:=pushCells (s.heap.push { cls := .type "dict",data := .dict #[] }) scope.names }) :
  wpAny M A (newFunctionEnv scope globals closure [] qual func code (some around) builtins) Q E s:=by
 simp only [newFunctionEnv,Option.isSome_some,if_true];refine Gm (wpAny_alloc ?_);refine Gm (wpAny_layCells _ (fun n k c=>rfl) scope.names closure _ _ ?_)
 rw [show ({ s with heap:=s.heap.push { cls := .type "dict",data := .dict #[] } }:Gp).heap.objs.size=s.heap.objs.size+1 from Iz ..]
 rw [List.forIn_nil];exact Gm (GY (GY h))
theorem mO {sc:JL}:∀ {names:List (G9×IB)} {x:G9} {k:IB},
  (names.map fun (n,k)=>if (k == Kd && sc.kind == .function && sc.names.lookup n == some .cell) then (n,Mh) else (n,k)).lookup x=some k ->
  ∃ k',names.lookup x=some k'/\(k=k'∨(k' = .free/\k = .cell))
 | [],_,_,h=>by simp at h
 | (n,k₀)::r,x,k,h=>by
  have ih:=@mO sc r x k;have h':J4 x ((if (k₀ == Kd && sc.kind == .function && sc.names.lookup n == some .cell)=true then (n,Mh) else (n,k₀))::(r.map _))=some k:=h
  cases hx:x == n with
  | true =>
   simp only [HX,hx];by_cases hc:(k₀ == Kd && sc.kind == .function && sc.names.lookup n == some .cell)=true
   ·rw [Ga hc] at h'
    simp only [HX,hx] at h';cases h';simp only [G8,beq_iff_eq] at hc;exact ⟨k₀,rfl,.inr ⟨hc.1.1,rfl⟩⟩
   ·rw [F9 hc] at h'
    simp only [HX,hx] at h';cases h';exact ⟨_,rfl,.inl rfl⟩
  | false =>
   simp only [HX,hx];by_cases hc:(k₀ == Kd && sc.kind == .function && sc.names.lookup n == some .cell)=true
   ·rw [Ga hc] at h'
    simp only [HX,hx] at h';exact ih h'
   ·rw [F9 hc] at h'
    simp only [HX,hx] at h';exact ih h'
structure xR (N:List G9) (sc scope:JL) (own:List (G9×Nat)):Prop where
 kind:scope.kind = .function
 uniq:∀ y∈scope.names,scope.names.lookup y.1=some y.2
 ix:∀ p∈own,N[p.2]?=some p.1
 free:∀ y∈scope.names,y.2 = .free->sc.names.lookup y.1=some .cell∨sc.names.lookup y.1=some .free
 own:∀ y∈scope.names,y.2 = .local∨y.2 = .cell->y.1∈own.map (·.1)∨y.1∉N
def wipe (σ:St):List Nat->St
 | []=>σ
 | v::vs=>(wipe σ vs).set v none
theorem mv (σ:St):∀ vs:List Nat,(wipe σ vs).length=σ.length
 | []=>rfl
 | v::vs=>by unfold wipe;rw [Ky,mv σ vs]
theorem qd {σ:St} {i:Nat} {x:V}:∀ {vs:List Nat},(wipe σ vs)[i]?=some (some x)->σ[i]?=some (some x)/\i∉vs
 | [],h=>⟨h,by simp⟩
 | v::vs,h=>by
  unfold wipe at h;by_cases hi:v=i
  ·subst hi
   by_cases hv:v<(wipe σ vs).length
   ·rw [Je hv] at h;cases h
   ·rw [Jh (by simpa using hv)] at h;cases h
  ·rw [Jk hi] at h
   obtain ⟨h1,h2⟩:=qd h;exact ⟨h1,by simp only [Gu,not_or];exact ⟨fun e=>hi e.symm,h2⟩⟩
abbrev Cx.blk (X:Cx) (s:Gp) (H:Hp) (scope:JL) (cenv:L5) (fp:List Gf):Cx:={ X with s_0:=s,H_0:=H,env:=cenv,outer:=X.stack,ex:=fp,fn:=fun x=>scope.names.lookup x == some .cell,pn:=[],xe:=fun _ _=>False }
section
variable {X:Cx} {pins:List (Gf×Io)} {σ:St} {H:Hp} {s:Gp}
theorem xK {scope:JL} {own:List (G9×Nat)} {fp:List Gf} (I:Inv X pins σ H s) (ok:xR X.N X.env.scope scope own) (hN:X.N.Nodup) (hfp:∀ b∈fp,tH X pins H b/\b<s.heap.objs.size) :
  Inv (X.blk s H scope (compEnvC scope (cellsFrom (s.heap.objs.size+1) scope.names (cloFrom X.env.cells scope.names [])) s.heap.objs.size X.env) fp) [] (wipe σ (own.map (·.2))) H { s with heap:=pushCells (s.heap.push { cls := .type "dict",data := .dict #[] }) scope.names }:=by
 have hfree:∀ y∈scope.names,y.2 = .free->∃ c,X.env.cells.lookup y.1=some c:=fun y hy e=>by
  rcases ok.free y hy e with k | k
  ·exact I.ok.has _ (.inl k)
  ·exact I.ok.has _ (.inr k)
 generalize hcenv:compEnvC scope (cellsFrom (s.heap.objs.size+1) scope.names (cloFrom X.env.cells scope.names [])) s.heap.objs.size X.env=cenv;have kp:∀ b o,s.heap.get? b=some o->(pushCells (s.heap.push { cls := .type "dict",data := .dict #[] }) scope.names).get? b=some o:=fun b o e=>LC _ _ _ _ (Gx _ e)
 have hL:cenv.locals=s.heap.objs.size:=by rw [← hcenv];rfl
 have hcl:cenv.cells=cellsFrom (s.heap.objs.size+1) scope.names (cloFrom X.env.cells scope.names []):=by rw [← hcenv];rfl
 have hsc:cenv.scope=relS scope X.env.scope:=by rw [← hcenv];rfl
 rw [← Iz s.heap { cls := .type "dict",data := .dict #[] }] at hcl;have cm:∀ {y c},(y,c)∈cloFrom X.env.cells scope.names []->X.env.cells.lookup y=some c/\c<s.heap.objs.size:=fun {y c} hm=>by
  rcases kI hm with hm | ⟨h1,rfl⟩
  ·cases hm
  ·obtain ⟨c,hc⟩:=hfree _ h1 rfl
   rw [hc];obtain ⟨w,z⟩:=I.cell _ _ hc;exact ⟨rfl,z.lt⟩
 have mem:∀ {y c},cenv.cells.lookup y=some c->(X.env.cells.lookup y=some c/\c<s.heap.objs.size)∨(s.heap.objs.size+1<=c/\Ek (pushCells (s.heap.push { cls := .type "dict",data := .dict #[] }) scope.names) c none):=fun {y c} e=>by
  rw [hcl] at e;rcases lG (HD e) with hm | ⟨_,h2,h3⟩
  ·exact .inl (cm hm)
  ·rw [Iz] at h2;exact .inr ⟨h2,h3⟩
 have look:∀ {y},scope.names.lookup y=some .free->∃ c,cenv.cells.lookup y=some c/\X.env.cells.lookup y=some c:=fun {y} hl=>by
  have hy:(y,Kd)∈scope.names:=HD hl;obtain ⟨c',e'⟩:=oG (n9 (names:=scope.names) (n:=(s.heap.push { cls := .type "dict",data := .dict #[] }).objs.size) (mW (cells:=X.env.cells) (acc:=[]) hy));rw [← hcl] at e';refine ⟨c',e',?_⟩;rw [hcl] at e';rcases lG (HD e') with hm | ⟨h1,_,_⟩
  ·exact (cm hm).1
  ·have:=ok.uniq _ h1
   rw [hl] at this;cases this
 have okB:(X.blk s H scope cenv fp).Ok:=by
  refine ⟨I.ok.mod,by show cenv.scope.kind=_;rw [hsc];exact ok.kind,by show cenv.globals=_;rw [← hcenv];exact I.ok.glob,by show cenv.builtins=_;rw [← hcenv];exact I.ok.blt,by show s.heap.objs.size<=cenv.locals;rw [hL];exact Go _,
   fun y z c e1 e2=>?_,fun y hy=>?_,fun y c z e=>?_,I.ok.hd,I.ok.frames,.inl rfl,fun b hb=>⟨?_,fun y c e z=>?_⟩,I.bs,Ie I.ok.bsz I.sz,fun b o e hb=>?_,fun b hb z=>?_,I.stack,I.stkFree⟩
  ·have e1:cenv.cells.lookup y=some c:=e1
   have e2:cenv.cells.lookup z=some c:=e2;rw [hcl] at e1 e2;refine qF (fun p hp=>?_) (fun y z c a b=>I.ok.inj y z c (cm a).1 (cm b).1) (HD e1) (HD e2)
   rw [Iz];exact K0 (cm (y:=p.1) (c:=p.2) hp).2
  ·show ∃ c,cenv.cells.lookup y=some c
   have key:∀ k,cenv.kindOf y=some k->(k = .cell∨k = .free)->∃ c,cenv.cells.lookup y=some c:=fun k hk hk'=>by
    unfold L5.kindOf at hk;rw [hsc] at hk;obtain ⟨k',e,r⟩:=mO hk;have:k' = .cell∨k' = .free:=by
     rcases r with rfl | ⟨rfl,_⟩
     ·exact hk'
     ·exact .inr rfl
    rcases this with rfl | rfl
    ·obtain ⟨c,hm⟩:=qG (n:=(s.heap.push { cls := .type "dict",data := .dict #[] }).objs.size) (acc:=cloFrom X.env.cells scope.names []) (HD e)
     obtain ⟨c',e'⟩:=oG hm;exact ⟨c',by rw [hcl];exact e'⟩
    ·obtain ⟨c,h1,_⟩:=look e
     exact ⟨c,h1⟩
   rcases hy with hy | hy
   ·exact key _ hy (.inl rfl)
   ·exact key _ hy (.inr rfl)
  ·have z:(scope.names.lookup y == some Mh)=true:=z
   have z:scope.names.lookup y=some .cell:=by simpa using z
   have e:cenv.cells.lookup y=some c:=e;rw [hcl] at e;rcases lG (HD e) with hm | ⟨_,h2,_⟩
   ·rcases kI hm with hm | ⟨h1,_⟩
    ·cases hm
    ·have q:=ok.uniq _ h1
     rw [z] at q;cases q
   ·rw [Iz] at h2
    exact K1 h2
  ·show b≠cenv.locals
   rw [hL];exact Hu (hfp b hb).2
  ·have e:cenv.cells.lookup y=some c:=e
   rcases mem e with ⟨h1,_⟩ | ⟨h1,_⟩
   ·exact (hfp b hb).1.2.2.2.2.1 y c h1 z
   ·have h2:s.heap.objs.size+1<=b:=by rw [← z];exact h1
    exact absurd (Ho (hfp b hb).2 (K1 h2)) (IL _)
  ·rcases (hfp b hb).1.2.2.2.1 with z | z
   ·exact I.ok.noex b o e z
   ·exact absurd (Ho (Ha e) (Ie I.ok.bsz z)) (IL _)
  ·rcases Gu.mp (I.stkSub b z) with z | z
   ·exact (hfp b hb).1.2.1 z
   ·exact (hfp b hb).1.2.2.1 z
 refine ⟨okB,rfl,I.bare,Un.kept kp,⟨fun _=>none,?_,fun i y av e1 e2 e3=>?_⟩,fun y c e=>?_,?_,fun y c e=>?_,fun p hp=>?_,I.hok.kept kp,by rw [mv];exact I.len⟩
 ·show GZ.Ns _ cenv.locals _
  rw [hL];exact GZ.Ns.keeps (GZ.Ns.new ..) fun b o e=>LC _ _ _ _ e
 ·obtain ⟨e2,hne⟩:=qd e2
  have hfr:scope.names.lookup y=some .free/\(cenv.kindOf y=some .cell∨cenv.kindOf y=some .free):=by
   have key:∀ k,cenv.scope.names.lookup y=some k->k = .local∨k = .cell∨k = .free->scope.names.lookup y=some .free/\(cenv.kindOf y=some .cell∨cenv.kindOf y=some .free):=fun k hk hk'=>by
    have hk0:=hk;rw [hsc] at hk;obtain ⟨k',e,r⟩:=mO hk;have no:¬ (k' = .local∨k' = .cell):=fun hh=>by
     rcases ok.own _ (HD e) hh with e' | e'
     ·obtain ⟨p,hp,hpy⟩:=IM.mp e'
      have e3:=ok.ix p hp;have:p.1=y:=hpy;rw [this] at e3;exact hne (IM.mpr ⟨p,hp,pC hN e3 e1⟩)
     ·exact e' (HG e1)
    rcases r with rfl | ⟨rfl,rfl⟩
    ·rcases hk' with rfl | rfl | rfl
     ·exact absurd (.inl rfl) no
     ·exact absurd (.inr rfl) no
     ·exact ⟨e,.inr hk0⟩
    ·exact ⟨e,.inl hk0⟩
   have e3:Vis cenv.scope y:=e3;rcases e3 with e3 | e3 | e3
   ·exact key _ e3 (.inl rfl)
   ·exact key _ e3 (.inr (.inl rfl))
   ·exact key _ e3 (.inr (.inr rfl))
  obtain ⟨m,hn,hl⟩:=I.loc;have hvis:Vis X.env.scope y:=(ok.free _ (HD hfr.1) rfl).elim (fun k => .inr (.inl k)) (fun k => .inr (.inr k))
  obtain ⟨w,r,q⟩:=hl i y av e1 e2 hvis;refine ⟨w,r,.inr ⟨hfr.2,?_⟩⟩;obtain ⟨c,h1,h2⟩:=look hfr.1;rcases q with ⟨k,_⟩ | ⟨_,c',e',z⟩
  ·have k:X.env.scope.names.lookup y=some .local:=k
   rcases ok.free _ (HD hfr.1) rfl with k' | k' <;> rw [show X.env.scope.names.lookup y=_ from k'] at k <;> cases k
  ·rw [h2] at e';cases e'
   exact ⟨c,h1,z.keeps kp⟩
 ·have e:cenv.cells.lookup y=some c:=e
  rcases mem e with ⟨h1,_⟩ | ⟨_,z⟩
  ·obtain ⟨w,z⟩:=I.cell y c h1
   exact ⟨w,z.keeps kp⟩
  ·exact ⟨_,z⟩
 ·show H cenv.locals=none
  rw [hL];exact I.hok.fresh (Go _)
 ·have e:cenv.cells.lookup y=some c:=e
  rcases mem e with ⟨h1,_⟩ | ⟨h1,_⟩
  ·exact I.freeC y c h1
  ·exact I.hok.fresh (K1 h1)
 ·exact absurd (show p∈([]:List (Gf×Io))++[] from hp) (by simp)
theorem app_ok {E:Gg->Gp->Prop} {D:Gf} {xs:List V} {y:V} {v:Gg} {Q:Gg->Gp->Prop} (I:Inv X pins σ H s) (hD:H D=some (.lst xs)) (hz:xs.length<sizeLine) (r:fE y v)
  (h:∀ s',Inv X pins σ (upd H D (.lst (xs++[y]))) s'->Q .none s'):wpAny (model X.prog X.w) X.A (call (.builtin "list.append") [.ref D,v]) Q E s:=by
 obtain ⟨hz',its,n,ri,e⟩:=I.hok D _ hD;have hl:=ri.length;refine append_at (hsz:=by rw [G0];omega) e fun h' sb ho'=>?_
 refine h { s with heap:=h' } (I.write (t':=s.toks) (by rw [hD];trivial) (.inl rfl) (fun b u hb q=>(sb.2 b hb).trans q) ⟨_,ho'⟩ ⟨by rw [Gi];exact hz,its++[v],n+1,ri.append (.cons r .nil),?_⟩)
 rw [ho'];simp
def PTs (X:Cx) (ifs:List HM) (t:TT):Prop :=
 ∀ (pins:List (Gf×Io)) (s:Gp) (σ:St) (H:Hp) (Q:Bool->Hp->Prop),Inv X pins σ H s->t σ H Q ->
  wpAny (model X.prog X.w) X.A (forIn ifs true fun c r=>if r=true then do let ok ← isTrue c X.env (eval c X.env);pure (K2 ok) else pure (K2 r)) (TP X pins σ Q) X.xe s
def tYes:TT:=fun _ H Q=>Q true H
theorem lX:PTs X [] tYes:=fun _ _ _ H _ I h=>wpAny_tests_nil ⟨H,I,h⟩
theorem vB {c:HM} {t:TT} (h:PT X c t):PTs X [c] t:=fun pins s σ H Q I hw=>wpAny_tests_one (h pins s σ H Q I hw)
end
theorem AL {α:Type} {t:Sem α} {Q Q':α->Gp->Prop} {M:Model} {A:HB} {E:Gg->Gp->Prop} {s:Gp} (h:wpAny M A t Q (fun _ _=>False) s) (hQ:∀ a s,Q a s->Q' a s):wpAny M A t Q' E s:=Iv h hQ fun _ _ z=>HW z
theorem vW {prog:Hk} {w:Hy} {A:HB} {R:Result->Gp->Prop} {s:Gp} {elt target iter:HM} {ifs:List HM} {scope:JL} {pos:Kv} {it acc:Gg} {env:L5} (I:Nat->Gp->Prop)
  (turn:∀ n s,I n s->wpAny (model prog w) A (pyNext it) (fun r s₁=>match r with
   | none=>R (.ok .next) s₁
   | some v=>wpAny (model prog w) A (letOwnedTupleGo target it v) (fun _ s₁'=>wpAny (model prog w) A (assign target env v) (fun _ s₂ =>
     wpAny (model prog w) A (forIn ifs true fun c r=>if r=true then do let ok ← isTrue c env (eval c env);pure (K2 ok) else pure (K2 r)) (fun ok s₃ =>
      if ok=true then wpAny (model prog w) A (eval elt env) (fun x s₄ =>
       wpAny (model prog w) A (call (.builtin "list.append") [acc,x]) (fun _ s₅=>∃ m,m<n/\I m s₅) (notedBy (model prog w) A env fun e s'=>R (.error e) s') s₄) (notedBy (model prog w) A env fun e s'=>R (.error e) s') s₃
      else ∃ m,m<n/\I m s₃) (notedBy (model prog w) A env fun e s'=>R (.error e) s') s₂) (notedBy (model prog w) A env fun e s'=>R (.error e) s') s₁') (notedBy (model prog w) A env fun e s'=>R (.error e) s') s₁) (notedBy (model prog w) A env fun e s'=>R (.error e) s') s)
  (n:Nat) (h:I n s) :
  codeAny (model prog w) A (.compLoop (.ListComp elt [⟨target,iter,ifs,0⟩] scope pos) 0 it acc env) R s:=by
 refine codeAny_loop rfl I (fun n s hI=>?_) n h
 show wpAny _ A ((compTurn (.ListComp elt [⟨target,iter,ifs,0⟩] scope pos) 0 it acc env).onRaise (fun x=>do noteFrame x env;theTreesLotGoes x)) _ _ s
 refine wpAny_noted ?_;rw [compTurn_list];refine Gm (KH (Gm (Iv (turn n s hI) (fun r s₁ h₁=>?_) fun _ _ h'=>h')))
 cases r with
 | none=>exact GY h₁
 | some v =>
  refine Gm (Iv h₁ (fun _ s₁' h₁'=>?_) fun _ _ h'=>h')
  refine Gm (Iv h₁' (fun _ s₂ h₂=>Gm (Iv h₂ (fun ok s₃ h₃=>?_) fun _ _ h'=>h')) fun _ _ h'=>h')
  cases ok with
  | false=>exact GY ⟨rfl,h₃⟩
  | true =>
   exact Gm (Gm (Iv h₃ (fun x s₄ h₄=>Gm (Iv h₄ (fun _ s₅ h₅=>GY (GY ⟨rfl,h₅⟩)) fun _ _ h'=>h')) fun _ _ h'=>h'))
section
variable {X:Cx}
def tLc (wi:TI) (g:TG) (tt:TT) (te:TE) (vs:List Nat):TE:=fun σ H Q=>wi σ H fun J H1=>∀ D,H1 D=none->∃ W:Nat->Nat->Hp->Prop,(∃ m,W 0 m (upd H1 D (.lst [])))/\∀ i m H,W i m H ->
 (J.stop i H/\Q (.ref D) H)∨(J.go i H/\∃ Nx:Hp->Prop,(∀ H',Nx H'->∃ m',m'<m/\W (i+1) m' H')/\∀ x H',J.yld i H x H'->g x (wipe σ vs) H' fun σ2 H2=>wipe σ2 vs=wipe σ vs/\tt σ2 H2 fun b H3 =>
  if b=true then te σ2 H3 fun y H4=>∃ acc,H4 D=some (.lst acc)/\acc.length<sizeLine/\Nx (upd H4 D (.lst (acc++[y]))) else Nx H3)
theorem Aj {pins:List (Gf×Io)} {s:Gp} {σ:St} {H:Hp} {Q:VK} {elt tg iter:HM} {ifs:List HM} {scope:JL} {own:List (G9×Nat)} {pos pos':Kv} {wi:TI} {g:TG} {tt:TT} {te:TE} {use:Option (Gg->Sem Unit)} {Qf:Gg->Gp->Prop}
  (hc:X.calm=true) (hN:X.N.Nodup) (I:Inv X pins σ H s) (hi:PI X tg iter wi) (ok:xR X.N X.env.scope scope own)
  (hg:∀ (s:Gp) (H:Hp) (C:Gf) (cl:List (G9×Gf)) (fp:List Gf),PG (X.blk s H scope (compEnvC scope cl C X.env) fp) tg g) (ht:∀ (s:Gp) (H:Hp) (C:Gf) (cl:List (G9×Gf)) (fp:List Gf),PTs (X.blk s H scope (compEnvC scope cl C X.env) fp) ifs tt)
  (he:∀ (s:Gp) (H:Hp) (C:Gf) (cl:List (G9×Gf)) (fp:List Gf),PE (X.blk s H scope (compEnvC scope cl C X.env) fp) elt te) (hs:∀ x,foldedSetIterable iter X.env x=pure x)
  (h:tLc wi g tt te (own.map (·.2)) σ H Q)
  (hRR:∀ D C s' m H',Inv X pins σ H' s'->Q (.ref D) H'->s'.heap.Ns C m->tH X pins H' C->compPost (model X.prog X.w) X.A X.xe use Qf (.ref D) C (.ok .next) s') :
  wpAny (model X.prog X.w) X.A (comprehension (.ListComp elt [⟨tg,iter,ifs,0⟩] scope pos) scope X.env pos' (newList []) false (eval iter X.env) use) Qf X.xe s:=by
 have hfree:∀ y∈scope.names,y.2 = .free->∃ c,X.env.cells.lookup y.1=some c:=fun y hy e=>by
  rcases ok.free y hy e with k | k
  ·exact I.ok.has _ (.inl k)
  ·exact I.ok.has _ (.inr k)
 refine wpAny_comprehension_free (use:=use) rfl hs (yR hfree) ok.kind (fun y hy e=>by rw [ok.uniq y hy,e])
  (thn (hi pins s σ H _ I h) fun xv s1 hx=>thn hx fun itv s2 h2=>?_)
 obtain ⟨it,fp,tn,J,H2,e,I2,T,st2,f2,q⟩:=h2;subst e;refine JP (xk ?_) (by show 0<=sizeLine;decide);generalize hD:s2.heap.objs.size=D;have hDn:H2 D=none:=I2.hok.fresh (Lk hD);obtain ⟨W,⟨m0,w0⟩,turn⟩:=q D hDn;generalize hs3:({ s2 with heap:=s2.heap.push { cls := .type "list",data := .seq ([]:List Gg).toArray } }:Gp)=s3
 have I3:Inv X pins σ (upd H2 D (.lst [])) s3:=by
  rw [← hs3];refine I2.laid (t':=s2.toks) (fun b o e=>Gx _ e) (Lk hD) ⟨G5 _,[],0,.nil,?_⟩
  rw [← hD];exact Hi _ rfl
 have h3:s3.heap=s2.heap.push { cls := .type "list",data := .seq ([]:List Gg).toArray }:=by rw [← hs3]
 have sz:∀ b∈fp,b<s2.heap.objs.size:=fun b hb=>by
  obtain ⟨o,e,_⟩:=T.obj _ _ st2 b hb;exact Ha e
 have f3:∀ b∈fp,tH X pins (upd H2 D (.lst [])) b/\b<s3.heap.objs.size:=fun b hb=>by
  have hlt:=sz b hb;refine ⟨⟨?_,(f2 b hb).2⟩,by rw [h3,Iz];exact K0 hlt⟩;rw [eK (by rw [← hD];exact Hu hlt)];exact (f2 b hb).1
 have st3:tn 0 s3.heap:=T.keep _ _ _ st2 fun b _ o e=>by rw [h3];exact Gx _ e
 have I4:=xK I3 ok hN f3;have pg:=hg s3 (upd H2 D (.lst [])) s3.heap.objs.size (cellsFrom (s3.heap.objs.size+1) scope.names (cloFrom X.env.cells scope.names [])) fp;have pt:=ht s3 (upd H2 D (.lst [])) s3.heap.objs.size (cellsFrom (s3.heap.objs.size+1) scope.names (cloFrom X.env.cells scope.names [])) fp;have pe:=he s3 (upd H2 D (.lst [])) s3.heap.objs.size (cellsFrom (s3.heap.objs.size+1) scope.names (cloFrom X.env.cells scope.names [])) fp;show codeAny _ _ (.compStart (.ListComp elt [⟨tg,iter,ifs,0⟩] scope pos) 0 (.ref it) (.ref D) (compEnvC scope (cellsFrom (s3.heap.objs.size+1) scope.names (cloFrom X.env.cells scope.names [])) s3.heap.objs.size X.env)) (compPost (model X.prog X.w) X.A X.xe use Qf (.ref D) s3.heap.objs.size) { s3 with heap:=pushCells (s3.heap.push { cls := .type "dict",data := .dict #[] }) scope.names }
 have nfp:∀ b∈fp,(upd H2 D (.lst [])) b=none:=fun b hb=>(f3 b hb).1.1
 generalize hce:compEnvC scope (cellsFrom (s3.heap.objs.size+1) scope.names (cloFrom X.env.cells scope.names [])) s3.heap.objs.size X.env=ce at I4 pg pt pe ⊢;have cL:ce.locals=s3.heap.objs.size:=by subst hce;rfl
 generalize hH3:upd H2 D (.lst [])=H3 at I3 I4 pg pt pe w0 nfp f3;generalize hs4:({ s3 with heap:=pushCells (s3.heap.push { cls := .type "dict",data := .dict #[] }) scope.names }:Gp)=s4 at I4 ⊢
 have st4:tn 0 s4.heap:=T.keep _ _ _ st3 fun b _ o e=>by rw [← hs4];exact LC _ _ _ _ (Gx _ e)
 have stat:∀ {σ':St} {H':Hp} {s':Gp},Inv (X.blk s3 H3 scope ce fp) [] σ' H' s'->(∀ b∈fp,H' b=none)->∀ b∈fp,tH (X.blk s3 H3 scope ce fp) [] H' b:=fun {σ' H' s'} I' hn b hb =>
  ⟨hn b hb,(I'.ok.exf b hb).1,I'.ok.exfs b hb,.inl hb,fun x c e=>(I'.ok.exf b hb).2 x c e,fun p hp=>absurd (show p∈([]:List (Gf×Io))++[] from hp) (by simp)⟩
 have loop:codeAny (model X.prog X.w) X.A (.compLoop (.ListComp elt [⟨tg,iter,ifs,0⟩] scope pos) 0 (.ref it) (.ref D) ce) (compPost (model X.prog X.w) X.A X.xe use Qf (.ref D) s3.heap.objs.size) s4:=by
  refine vW (fun n s'=>∃ i H',Inv (X.blk s3 H3 scope ce fp) [] (wipe σ (own.map (·.2))) H' s'/\tn i s'.heap/\(∀ b∈fp,H' b=none)/\W i n H') ?_ m0 ⟨0,H3,I4,st4,nfp,w0⟩
  rintro n s5 ⟨i,H5,I5,st5,n5,w5⟩
  rcases turn i n H5 w5 with ⟨stop,qq⟩ | ⟨go,Nx,hNx,step⟩
  ·have td:=T.done (X.blk s3 H3 scope ce fp) rfl rfl rfl hc i [] s5 _ H5 (fun _ _=>False) I5 (stat I5 n5) st5 stop
   refine AL td fun r s6 ⟨hr,I6⟩=>?_
   subst hr;have I7:Inv X pins σ H5 s6:=I3.call' (ch:=fp) I6.os I6.base I6.hok I6.bare fun b hb=>⟨(f3 b hb).1.2.2.2.1,(f3 b hb).1.2.1,(f3 b hb).1.2.2.2.2.1,(f3 b hb).1.2.2.2.2.2⟩
   have nC:H5 s3.heap.objs.size=none:=by
    have z:H5 ce.locals=none:=I6.free;rw [cL] at z;exact z
   obtain ⟨m,hn,_⟩:=I6.loc;have hn:s6.heap.Ns ce.locals m:=hn;rw [cL] at hn;exact hRR D s3.heap.objs.size s6 m H5 I7 qq hn (I3.fpOk (Go _) nC)
  ·have ti:=T.item (X.blk s3 H3 scope ce fp) rfl rfl rfl hc i [] s5 _ H5 (fun _ _=>False) I5 (stat I5 n5) st5 go
   refine AL ti fun r s6 ⟨u,hr,h6⟩=>?_
   subst hr;refine AL h6 fun _ s7 ⟨x,H7,I7,r7,y7,st7,n7⟩=>?_
   have I7':=I7.pinned (stat I7 n7) (T.obj _ _ st7);refine AL (pg _ s7 _ H7 x u _ I7' r7 (step x H7 y7)) fun _ s8 ⟨σ8,H8,I8,hw8,q8⟩=>?_
   refine AL (pt _ s8 σ8 H8 _ I8 q8) fun b s9 ⟨H9,I9,q9⟩=>?_
   have fin:∀ {s':Gp} {H':Hp},Inv (X.blk s3 H3 scope ce fp) ([]++pinsAt fp s7.heap) σ8 H' s'->Nx H'->∃ m,m<n/\∃ i H',Inv (X.blk s3 H3 scope ce fp) [] (wipe σ (own.map (·.2))) H' s'/\tn i s'.heap/\(∀ b∈fp,H' b=none)/\W i m H':=fun {s' H'} I' nx=>by
    obtain ⟨m',hm,w'⟩:=hNx H' nx;have pin':∀ b∈fp,∀ o,s7.heap.get? b=some o->s'.heap.get? b=some o/\H' b=none:=fun b hb o e =>
     let z:=I'.pin (b,o) (HY _ (HY _ (oF hb e)))
     ⟨z.1,z.2.1⟩
    have hl:(wipe σ (own.map (·.2))).length=σ8.length:=by rw [← hw8,mv]
    refine ⟨m',hm,i+1,H',(I'.unpinned (pins:=[])).weak hl (fun j v e=>?_),T.keep _ _ _ st7 fun b hb o e=>(pin' b hb o e).1,fun b hb=>?_,w'⟩
    ·rw [← hw8] at e
     exact (qd e).1
    ·obtain ⟨o,e,_⟩:=T.obj _ _ st7 b hb
     exact (pin' b hb o e).2
   cases b with
   | false =>
    simp only [Jx,if_false] at q9 ⊢;exact fin I9 q9
   | true =>
    simp only [if_true] at q9 ⊢;refine AL (pe _ s9 σ8 H9 _ I9 q9) fun z s10 ⟨yv,H10,I10,r10,acc,hD10,hz10,nx⟩=>?_
    exact app_ok (X:=X.blk s3 H3 scope ce fp) I10 hD10 hz10 r10 fun s11 I11=>fin I11 nx
 exact codeAny_compStart_list loop (T.self X.A 0 _ _ _ st4 loop)
theorem qL {elt tg iter:HM} {ifs:List HM} {scope:JL} {own:List (G9×Nat)} {pos:Kv} {wi:TI} {g:TG} {tt:TT} {te:TE} (hc:X.calm=true) (hN:X.N.Nodup) (hi:PI X tg iter wi) (ok:xR X.N X.env.scope scope own)
  (hg:∀ (s:Gp) (H:Hp) (C:Gf) (cl:List (G9×Gf)) (fp:List Gf),PG (X.blk s H scope (compEnvC scope cl C X.env) fp) tg g) (ht:∀ (s:Gp) (H:Hp) (C:Gf) (cl:List (G9×Gf)) (fp:List Gf),PTs (X.blk s H scope (compEnvC scope cl C X.env) fp) ifs tt)
  (he:∀ (s:Gp) (H:Hp) (C:Gf) (cl:List (G9×Gf)) (fp:List Gf),PE (X.blk s H scope (compEnvC scope cl C X.env) fp) elt te) (hs:∀ x,foldedSetIterable iter X.env x=pure x:=by intro _;rfl) :
  PE X (.ListComp elt [⟨tg,iter,ifs,0⟩] scope pos) (tLc wi g tt te (own.map (·.2))):=by
 intro pins s σ H Q I h;rw [eval_ListComp];refine Aj hc hN I hi ok hg ht he hs h fun D C s' m H' I' q hn f=>⟨m,hn,fun h'' sb=>?_⟩
 obtain ⟨f0,f1,f2,f3,f4,f5⟩:=f;exact ⟨.ref D,H',I'.turned (t':=s'.toks) (fun b o hb e=>(sb.2 b hb).trans e) f0 f1 f3 f4 f5,rfl,q⟩
theorem wZ {i:Nat} {y:G9} {py:Kv} {elt tg iter:HM} {ifs:List HM} {scope:JL} {own:List (G9×Nat)} {pos spos:Kv} {wi:TI} {g:TG} {tt:TT} {te:TE} (hc:X.calm=true) (hN:X.N.Nodup) (hy:X.N[i]?=some y) (hyl:X.env.scope.names.lookup y=some .local)
  (hsw:swapsWith (.ListComp elt [⟨tg,iter,ifs,0⟩] scope pos) (some (.Name y py)) spos.line X.env=pure true) (hi:PI X tg iter wi) (ok:xR X.N X.env.scope scope own)
  (hg:∀ (s:Gp) (H:Hp) (C:Gf) (cl:List (G9×Gf)) (fp:List Gf),PG (X.blk s H scope (compEnvC scope cl C X.env) fp) tg g) (ht:∀ (s:Gp) (H:Hp) (C:Gf) (cl:List (G9×Gf)) (fp:List Gf),PTs (X.blk s H scope (compEnvC scope cl C X.env) fp) ifs tt)
  (he:∀ (s:Gp) (H:Hp) (C:Gf) (cl:List (G9×Gf)) (fp:List Gf),PE (X.blk s H scope (compEnvC scope cl C X.env) fp) elt te) (hs:∀ x,foldedSetIterable iter X.env x=pure x:=by intro _;rfl) :
  PS X (.Assign [.Name y py] (.ListComp elt [⟨tg,iter,ifs,0⟩] scope pos) spos) (tAsg (tLc wi g tt te (own.map (·.2))) (gName i)):=by
 intro pins s σ H D I h;rw [exec_Assign_Name_used _ _ _ _ hsw];refine Gm (KH (Gm ?_));show wpAny _ X.A (do let _ ← comprehension (.ListComp elt [⟨tg,iter,ifs,0⟩] scope pos) scope X.env (firstIterPos [⟨tg,iter,ifs,0⟩] pos) (newList []) false (eval iter X.env) (some (assign (.Name y py) X.env))) _ _ s
 have h:tLc wi g tt te (own.map (·.2)) σ H (fun x H1=>gName i x σ H1 D.nx):=h
 refine Gm (thn (Aj (Qf:=fun _ s'=>SP X pins D .next s') hc hN I hi ok hg ht he hs h fun L C s' m H' I' q hn f=>?_) fun _ s' hq=>GY (GY hq))
 show wpAny _ _ (assign (.Name y py) X.env (.ref L)) _ _ _;refine wpAny_assign_Name (tX (v:=V.ref L) I' hN hy (.inl hyl) rfl (fun s2 I2 ⟨a,sb,ha⟩=>?_) (.inr hyl))
 obtain ⟨f0,f1,f2,f3,f4,f5⟩:=f;have haC:C≠a:=by
  rcases ha with z | z
  ·rw [z];exact f1
  ·exact fun e=>f4 y a z e.symm
 refine ⟨m,hn.sameBut sb haC,fun h3 sb3=>?_⟩
 exact ⟨_,H',I2.turned (t':=s2.toks) (fun b o hb e=>(sb3.2 b hb).trans e) f0 f1 f3 f4 f5,q⟩
theorem zi {elt:HM} {gs:List Comprehension} {scope:JL} {pos py:Kv} {y:G9} {l:Nat} {env:L5} (hk:env.scope.kind = .function) (hy:env.scope.names.lookup y=some .local) (hl:(py.line == pos.line)=true)
  (ha:(scope.names.any fun (n,k)=>n == y && (k == .local || k == .cell))=false):swapsWith (.ListComp elt gs scope pos) (some (.Name y py)) l env=pure true:=by
 have ky:env.kindOf y=some .local:=hy;have hb:env.blockKind = .function:=by unfold L5.blockKind;rw [hk];rfl
 unfold swapsWith;simp only [hb,ky,ha,HM.pos,hl];rfl
end
theorem DM {lo:Int} {n:Nat} {g:TG} {tt:TT} {te:TE} {vs:List Nat} {σ:St} {H1:Hp} {D:Gf} {Qd:Hp->Prop} (Pv:Nat->Hp->Prop) (h0:Pv 0 (upd H1 D (.lst [])))
  (hs:∀ i H,i<n->Pv i H->g (.int (lo+i)) (wipe σ vs) H fun σ2 H2=>wipe σ2 vs=wipe σ vs/\tt σ2 H2 fun b H3 =>
   if b=true then te σ2 H3 fun y H4=>∃ acc,H4 D=some (.lst acc)/\acc.length<sizeLine/\Pv (i+1) (upd H4 D (.lst (acc++[y]))) else Pv (i+1) H3) (hd:∀ H,Pv n H->Qd H) :
  ∃ W:Nat->Nat->Hp->Prop,(∃ m,W 0 m (upd H1 D (.lst [])))/\∀ i m H,W i m H ->
   ((Itr lo n).stop i H/\Qd H)∨((Itr lo n).go i H/\∃ Nx:Hp->Prop,(∀ H',Nx H'->∃ m',m'<m/\W (i+1) m' H')/\∀ x H',(Itr lo n).yld i H x H'->g x (wipe σ vs) H' fun σ2 H2=>wipe σ2 vs=wipe σ vs/\tt σ2 H2 fun b H3 =>
    if b=true then te σ2 H3 fun y H4=>∃ acc,H4 D=some (.lst acc)/\acc.length<sizeLine/\Nx (upd H4 D (.lst (acc++[y]))) else Nx H3):=by
 refine ⟨fun i m H=>m=n-i/\i<=n/\Pv i H,⟨n,by simp,G5 _,h0⟩,?_⟩
 rintro i m H ⟨rfl,hi,p⟩
 by_cases hlt:i<n
 ·refine .inr ⟨hlt,Pv (i+1),fun H' p'=>⟨n-(i+1),by omega,rfl,hlt,p'⟩,fun x H' y=>?_⟩
  obtain ⟨e,y⟩:=y;subst e y;exact hs i _ hlt p
 ·have e:i=n:=by omega
  subst e;exact .inl ⟨Go _,hd H p⟩
theorem nM {K:Gh} {a:Gf} {xs:List V} {g:TG} {tt:TT} {te:TE} {vs:List Nat} {σ:St} {H1:Hp} {D:Gf} {Qd:Hp->Prop} (Pv:Nat->Hp->Prop) (h0:Pv 0 (upd H1 D (.lst []))) (hl:∀ i H,i<=xs.length->Pv i H->SqL K H a xs)
  (hs:∀ i x H,xs[i]?=some x->Pv i H->g x (wipe σ vs) H fun σ2 H2=>wipe σ2 vs=wipe σ vs/\tt σ2 H2 fun b H3 =>
   if b=true then te σ2 H3 fun y H4=>∃ acc,H4 D=some (.lst acc)/\acc.length<sizeLine/\Pv (i+1) (upd H4 D (.lst (acc++[y]))) else Pv (i+1) H3) (hd:∀ H,Pv xs.length H->Qd H) :
  ∃ W:Nat->Nat->Hp->Prop,(∃ m,W 0 m (upd H1 D (.lst [])))/\∀ i m H,W i m H ->
   ((Itl K a).stop i H/\Qd H)∨((Itl K a).go i H/\∃ Nx:Hp->Prop,(∀ H',Nx H'->∃ m',m'<m/\W (i+1) m' H')/\∀ x H',(Itl K a).yld i H x H'->g x (wipe σ vs) H' fun σ2 H2=>wipe σ2 vs=wipe σ vs/\tt σ2 H2 fun b H3 =>
    if b=true then te σ2 H3 fun y H4=>∃ acc,H4 D=some (.lst acc)/\acc.length<sizeLine/\Nx (upd H4 D (.lst (acc++[y]))) else Nx H3):=by
 refine ⟨fun i m H=>m=xs.length-i/\i<=xs.length/\Pv i H,⟨xs.length,by simp,G5 _,h0⟩,?_⟩
 rintro i m H ⟨rfl,hi,p⟩
 have q:=hl i H hi p;by_cases hlt:i<xs.length
 ·refine .inr ⟨⟨xs,xs[i],q,by simp [hlt]⟩,Pv (i+1),fun H' p'=>⟨xs.length-(i+1),by omega,rfl,hlt,p'⟩,fun x H' y=>?_⟩
  obtain ⟨e,y⟩:=y;subst e;exact hs i x _ (y xs q) p
 ·have e:i=xs.length:=by omega
  subst e;exact .inl ⟨⟨xs,q,Go _⟩,hd H p⟩
theorem DL {K:Gh} {a:Gf} {xs:List V} {g:TG} {tt:TT} {te:TE} {vs:List Nat} {σ:St} {H1:Hp} {D:Gf} {Qd:Hp->Prop} (Pv:Nat->Hp->Prop) (h0:Pv 0 (upd H1 D (.lst []))) (hl:∀ i H,i<=xs.length->Pv i H->SqT K H a xs)
  (hs:∀ i x H,xs[i]?=some x->Pv i H->g x (wipe σ vs) H fun σ2 H2=>wipe σ2 vs=wipe σ vs/\tt σ2 H2 fun b H3 =>
   if b=true then te σ2 H3 fun y H4=>∃ acc,H4 D=some (.lst acc)/\acc.length<sizeLine/\Pv (i+1) (upd H4 D (.lst (acc++[y]))) else Pv (i+1) H3) (hd:∀ H,Pv xs.length H->Qd H) :
  ∃ W:Nat->Nat->Hp->Prop,(∃ m,W 0 m (upd H1 D (.lst [])))/\∀ i m H,W i m H ->
   ((Itt K a).stop i H/\Qd H)∨((Itt K a).go i H/\∃ Nx:Hp->Prop,(∀ H',Nx H'->∃ m',m'<m/\W (i+1) m' H')/\∀ x H',(Itt K a).yld i H x H'->g x (wipe σ vs) H' fun σ2 H2=>wipe σ2 vs=wipe σ vs/\tt σ2 H2 fun b H3 =>
    if b=true then te σ2 H3 fun y H4=>∃ acc,H4 D=some (.lst acc)/\acc.length<sizeLine/\Nx (upd H4 D (.lst (acc++[y]))) else Nx H3):=by
 refine ⟨fun i m H=>m=xs.length-i/\i<=xs.length/\Pv i H,⟨xs.length,by simp,G5 _,h0⟩,?_⟩
 rintro i m H ⟨rfl,hi,p⟩
 have q:=hl i H hi p;by_cases hlt:i<xs.length
 ·refine .inr ⟨⟨xs,xs[i],q,by simp [hlt]⟩,Pv (i+1),fun H' p'=>⟨xs.length-(i+1),by omega,rfl,hlt,p'⟩,fun x H' y=>?_⟩
  obtain ⟨e,y⟩:=y;subst e;exact hs i x _ (y xs q) p
 ·have e:i=xs.length:=by omega
  subst e;exact .inl ⟨⟨xs,q,Go _⟩,hd H p⟩
def blkC (N:List G9) (sc scope:JL) (own:List (G9×Nat)):Bool :=
 (match scope.kind with | .function=>true | _=>false) && (scope.names.all fun y=>decide (scope.names.lookup y.1=some y.2)) && (own.all fun p=>decide (N[p.2]?=some p.1)) &&
  (scope.names.all fun y=>match y.2 with
   | .free=>(match sc.names.lookup y.1 with | some .cell=>true | some .free=>true | _=>false)
   | .local=>decide (y.1∈own.map (·.1)) || decide (y.1∉N)
   | .cell=>decide (y.1∈own.map (·.1)) || decide (y.1∉N)
   | _=>true)
theorem iq {N:List G9} {sc scope:JL} {own:List (G9×Nat)} (h:blkC N sc scope own=true):xR N sc scope own:=by
 unfold blkC at h;simp only [G8,Kj,decide_eq_true_eq] at h;obtain ⟨⟨⟨h1,h2⟩,h3⟩,h4⟩:=h;refine ⟨?_,h2,h3,fun y hy e=>?_,fun y hy e=>?_⟩
 ·split at h1
  ·assumption
  ·cases h1
 ·have q:=h4 y hy
  simp only [e] at q;split at q <;> first | exact .inl (by assumption) | exact .inr (by assumption) | cases q
 ·have q:=h4 y hy
  rcases e with e | e <;> (simp only [e,Bool.or_eq_true,decide_eq_true_eq] at q;exact q)
end L2
namespace L2
open PySem PySem.Spec PyProof.Rows
section
variable {prog:Hk} {w:Hy} {A:HB} {R:Result->Gp->Prop} {s:Gp} {elt t0 i0 t1 i1:HM} {ifs0 ifs1:List HM} {scope:JL} {pos:Kv} {it acc:Gg} {env:L5}
end
section
variable {X:Cx}
end
end L2
namespace L2
open PySem PySem.Spec PyProof.Rows
section
variable {κ:Type} [DecidableEq κ]
def valV (kvs:List (κ×V)) (k:κ):Option V:=(kvs.find? fun kv=>decide (kv.1=k)).map (·.2)
def putK (kvs:List (κ×V)) (k:κ) (v:V):List (κ×V) :=
 if (kvs.any fun kv=>decide (kv.1=k))=true then kvs.map (fun kv=>if kv.1=k then (kv.1,v) else kv) else kvs++[(k,v)]
theorem hJ {p:κ×V} {r:List (κ×V)} {k:κ} (e:p.1=k):valV (p::r) k=some p.2:=by simp [valV,JB,e]
theorem hU {p:κ×V} {r:List (κ×V)} {k:κ} (e:¬ p.1=k):valV (p::r) k=valV r k:=by simp [valV,JB,e]
theorem jw (k:κ):∀ kvs:List (κ×V),(kvs.any fun kv=>decide (kv.1=k))=(valV kvs k).isSome
 | []=>rfl
 | p::r=>by
  rw [Km];by_cases e:p.1=k
  ·simp only [hJ e,Gb e,Bool.true_or,Option.isSome_some]
  ·rw [hU e,Gc e,Bool.false_or];exact jw k r
theorem wo (k j:κ) (y:V):∀ kvs:List (κ×V),valV (kvs.map fun kv=>if kv.1=k then (kv.1,y) else kv) j=(valV kvs j).map fun x=>if j=k then y else x
 | []=>rfl
 | p::r=>by
  have ih:=wo k j y r;rw [Hs];by_cases h:p.1=k
  ·rw [Ga h]
   by_cases e:p.1=j
   ·rw [hJ (p:=(p.1,y)) e,hJ e,Ko,Ga (e.symm.trans h)]
   ·rw [hU (p:=(p.1,y)) e,hU e,ih]
  ·rw [F9 h]
   by_cases e:p.1=j
   ·rw [hJ (p:=p) e,hJ e,Ko,F9 (fun z=>h (e.trans z))]
   ·rw [hU (p:=p) e,hU e,ih]
theorem tW (k j:κ) (y:V):∀ kvs:List (κ×V),valV kvs k=none->valV (kvs++[(k,y)]) j=if j=k then some y else valV kvs j
 | [],_=>by
  by_cases e:k=j
  ·rw [Ga e.symm];exact hJ (p:=(k,y)) e
  ·rw [F9 (fun z=>e z.symm)];exact hU (p:=(k,y)) e
 | p::r,hn=>by
  rw [List.cons_append];have hk:¬ p.1=k:=fun z=>by rw [hJ z] at hn;cases hn
  rw [hU hk] at hn;have ih:=tW k j y r hn;by_cases e:p.1=j
  ·rw [hJ e,hJ e,F9 (fun z=>hk (e.trans z))]
  ·rw [hU e,hU e,ih]
theorem oU (kvs:List (κ×V)) (k j:κ) (y:V):valV (putK kvs k y) j=if j=k then some y else valV kvs j:=by
 unfold putK;by_cases a:(kvs.any fun kv=>decide (kv.1=k))=true
 ·rw [Ga a,wo]
  rw [jw] at a;by_cases e:j=k
  ·obtain ⟨x,hx⟩:=Option.isSome_iff_exists.mp a
   rw [Ga e,e,hx,Ko,Ga rfl]
  ·rw [F9 e]
   cases valV kvs j with
   | none=>rfl
   | some x=>rw [Ko,F9 e]
 ·rw [F9 a]
  refine tW k j y kvs ?_;rw [jw] at a;cases q:valV kvs k with
  | none=>rfl
  | some x=>rw [q] at a;exact (a rfl).elim
theorem jy (kvs:List (κ×V)) (k:κ) (v:V):(putK kvs k v).length<=kvs.length+1:=by
 unfold putK;split
 ·rw [Ge];omega
 ·rw [Gi,GQ,Ja];omega
theorem CN {kvs:List (κ×V)} {k:κ} (v:V) (h:valV kvs k=none):putK kvs k v=kvs++[(k,v)]:=by
 unfold putK;rw [jw,h];exact F9 (by decide)
theorem jB.isSome_eq {o:Option V} {u:Option Gg} (r:jB o u):o.isSome=u.isSome:=by
 cases o with
 | none=>cases u with
  | none=>rfl
  | some _=>exact (show False from r).elim
 | some _=>cases u with
  | none=>exact (show False from r).elim
  | some _=>rfl
theorem jB.getD {o:Option V} {u:Option Gg} {d:V} {d':Gg} (r:jB o u) (rd:fE d d'):fE (o.getD d) (u.getD d'):=by
 cases o with
 | none=>cases u with
  | none=>exact rd
  | some _=>exact (show False from r).elim
 | some _=>cases u with
  | none=>exact (show False from r).elim
  | some _=>exact r
theorem KV.val {kvs:List (κ×V)} {vs:List (κ×Gg)} (r:KV kvs vs) (k:κ):jB (valV kvs k) (valueAt vs k):=by
 unfold KV at r;induction r with
 | nil=>exact JN
 | @cons p q ps qs h t ih =>
  obtain ⟨h1,h2⟩:=h;by_cases e:p.1=k
  ·have e':q.1=k:=h1.symm.trans e
   have b:valueAt (q::qs) k=some q.2:=by simp [valueAt,JB,e']
   rw [hJ e,b];exact h2
  ·have e':¬ q.1=k:=fun z=>e (h1.trans z)
   have b:valueAt (q::qs) k=valueAt qs k:=by simp [valueAt,JB,e']
   rw [hU e,b];exact ih
theorem KV.any {kvs:List (κ×V)} {vs:List (κ×Gg)} (r:KV kvs vs) (k:κ):(kvs.any fun kv=>decide (kv.1=k))=vs.any fun kv=>decide (kv.1=k):=by
 unfold KV at r;induction r with
 | nil=>rfl
 | cons h t ih=>rw [Km,Km,ih,h.1]
theorem KV.repl {kvs:List (κ×V)} {vs:List (κ×Gg)} (r:KV kvs vs) (k:κ) {y:V} {u:Gg} (ry:fE y u) :
  KV (kvs.map fun kv=>if kv.1=k then (kv.1,y) else kv) (vs.map fun kv=>if kv.1=k then (kv.1,u) else kv):=by
 unfold KV at r ⊢;induction r with
 | nil=>exact .nil
 | @cons p q ps qs h t ih =>
  rw [Hs,Hs];refine .cons ?_ ih;obtain ⟨h1,h2⟩:=h;by_cases e:p.1=k
  ·rw [Ga e,Ga (h1.symm.trans e)];exact ⟨h1,ry⟩
  ·rw [F9 e,F9 (fun z=>e (h1.trans z))];exact ⟨h1,h2⟩
theorem KV.put {kvs:List (κ×V)} {vs:List (κ×Gg)} (r:KV kvs vs) (k:κ) {y:V} {u:Gg} (ry:fE y u):KV (putK kvs k y) (stored vs k u):=by
 unfold putK stored;rw [r.any k];by_cases e:(vs.any fun kv=>decide (kv.1=k))=true
 ·rw [Ga e,Ga e];exact r.repl k ry
 ·rw [F9 e,F9 e];exact Jg.snoc r ⟨rfl,ry⟩
theorem KV.length {kvs:List (κ×V)} {vs:List (κ×Gg)} (r:KV kvs vs):kvs.length=vs.length:=JS r
end
theorem pM {P:Hk} {w:Hy} {k:Key} {u:Gg} (r:fE (kV k) u):(mixKind P w).is k u=true:=by
 cases k with
 | inl i=>obtain ⟨t,e⟩:=(show ∃ t,u=K4 i t from r);subst e;exact mL P w i t
 | inr x=>obtain ⟨t,e⟩:=(show ∃ t,u=Gg.str x t from r);subst e;exact xm P w x t
theorem uL {P:Hk} {w:Hy}:∀ {ks:List Key} {us:List Gg},fu (ks.map kV) us->ItemsAre (mixKind P w) ks us
 | [],_,r=>by rw [KL] at r;cases r;exact .nil
 | k::ks,_,r=>by
  rw [Hs] at r;cases r with
  | cons h t=>exact .cons (pM h) (uL t)
abbrev KT (H:Hp):List (List Key×V)->List (List Key×Gf×Gg)->Prop:=Jg fun p q=>p.1=q.1/\H q.2.1=some (.tup (p.1.map kV))/\fE p.2 q.2.2
theorem KT.val {H:Hp} {kvs:List (List Key×V)} {xs:List (List Key×Gf×Gg)} (r:KT H kvs xs) (k:List Key):jB (valV kvs k) ((atKey xs k).map (·.2)):=by
 induction r with
 | nil=>exact JN
 | @cons p q ps qs h t ih =>
  obtain ⟨h1,_,h2⟩:=h;by_cases e:p.1=k
  ·have e':q.1=k:=h1.symm.trans e
   have b:atKey (q::qs) k=some q.2:=by simp [atKey,JB,e']
   rw [hJ e,b];exact h2
  ·have e':¬ q.1=k:=fun z=>e (h1.trans z)
   have b:atKey (q::qs) k=atKey qs k:=by simp [atKey,JB,e']
   rw [hU e,b];exact ih
theorem KT.repl {H:Hp} {kvs:List (List Key×V)} {xs:List (List Key×Gf×Gg)} (r:KT H kvs xs) (k:List Key) {y:V} {u:Gg} (ry:fE y u) :
  KT H (kvs.map fun kv=>if kv.1=k then (kv.1,y) else kv) (xs.map (putAt k u)):=by
 induction r with
 | nil=>exact .nil
 | @cons p q ps qs h t ih =>
  rw [Hs,Hs];refine .cons ?_ ih;obtain ⟨h1,h2,h3⟩:=h;unfold putAt;by_cases e:p.1=k
  ·rw [Ga e,Ga (h1.symm.trans e)];exact ⟨h1,h2,ry⟩
  ·rw [F9 e,F9 (fun z=>e (h1.trans z))];exact ⟨h1,h2,h3⟩
theorem KT.put {H:Hp} {kvs:List (List Key×V)} {xs:List (List Key×Gf×Gg)} (r:KT H kvs xs) (k:List Key) {b:Gf} {y:V} {u:Gg} (hb:H b=some (.tup (k.map kV))) (ry:fE y u) :
  KT H (putK kvs k y) (storedH xs k b u):=by
 have e:(kvs.any fun kv=>decide (kv.1=k))=(atKey xs k).isSome:=by
  rw [jw,(r.val k).isSome_eq,LM]
 unfold putK storedH;rw [e];by_cases q:(atKey xs k).isSome=true
 ·rw [Ga q,Ga q];exact r.repl k ry
 ·rw [F9 q,F9 q];exact Jg.snoc r ⟨rfl,hb,ry⟩
theorem KT.keeps {H H':Hp} {kvs:List (List Key×V)} {xs:List (List Key×Gf×Gg)} (r:KT H kvs xs) (ht:∀ b ys,H b=some (.tup ys)->H' b=some (.tup ys)):KT H' kvs xs :=
 Jg.mapP r fun _ _ z=>⟨z.1,ht _ _ z.2.1,z.2.2⟩
section
variable {P:Hk} {w:Hy} {H:Hp} {h:GZ} {a:Gf}
theorem FW {u:HO} (ok:HOk P w H h) (e:Rd H a u):f8 P w H h a u:=e.ok ok
theorem sX {kvs:List (Key×V)} (ok:HOk P w H h) (e:Rd H a (.dK kvs)):kvs.length<=sizeLine/\(a == sysModules)=false/\∃ vs,KV kvs vs/\h.DictOf (mixKind P w) a vs :=
 show f8 P w H h a (.dK kvs) from FW ok e
theorem DZ {kvs:List (Key×V)} (ok:HOk P w H h) (e:H a=some (.dK kvs)):kvs.length<=sizeLine/\(a == sysModules)=false/\∃ vs,KV kvs vs/\h.DictOf (mixKind P w) a vs:=sX ok (.inl e)
theorem qA {ks:List Key} (ok:HOk P w H h) (e:H a=some (.tup (ks.map kV))):(tupleKind (mixKind P w)).is h ks a:=by
 obtain ⟨_,its,r,o,h1,h2,n,h3⟩:=(show f8 P w H h a (.tup (ks.map kV)) from ok a _ e);exact ⟨o,its.toArray,n,h1,h2,h3,by simpa using uL r⟩
theorem sW {kvs:List (List Key×V)} (ok:HOk P w H h) (e:Rd H a (.dT kvs)):kvs.length<=sizeLine/\(a == sysModules)=false /\
  ∃ xs,KT H kvs xs/\h.DictOfH (tupleKind (mixKind P w)) a xs:=by
 obtain ⟨z,y,xs,r,o,es,ep,h1,h2,h3,h4,h5⟩:=(show f8 P w H h a (.dT kvs) from FW ok e);refine ⟨z,y,xs,r,o,es,ep,h1,h2,h3,h4,fun x hx=>?_,h5⟩
 have all:∀ {l:List (List Key×V)} {m:List (List Key×Gf×Gg)},KT H l m->∀ x∈m,(tupleKind (mixKind P w)).is h x.1 x.2.1:=by
  intro l m q;induction q with
  | nil=>intro x hx;exact nomatch hx
  | @cons p q ps qs hq t ih =>
   intro x hx;rcases Gu.mp hx with e | hx
   ·subst e
    exact qA ok (by rw [← hq.1];exact hq.2.1)
   ·exact ih x hx
 exact all r x hx
theorem dt_of {kvs:List (List Key×V)} (ok:HOk P w H h) (e:H a=some (.dT kvs)):kvs.length<=sizeLine/\(a == sysModules)=false /\
  ∃ xs,KT H kvs xs/\h.DictOfH (tupleKind (mixKind P w)) a xs:=sW ok (.inl e)
end
def lh (H:Hp) (a:Gf) (y:V) (r:Option V):Prop :=
 (∃ kvs k,Rd H a (.dK kvs)/\y=kV k/\r=valV kvs k)∨∃ kvs k b,Rd H a (.dT kvs)/\y = .ref b/\H b=some (.tup (k.map kV))/\r=valV kvs k
def tS (H:Hp) (a:Gf) (y v:V) (H':Hp):Prop :=
 (∃ kvs k,H a=some (.dK kvs)/\y=kV k/\kvs.length<sizeLine/\H'=upd H a (.dK (putK kvs k v))) ∨
 ∃ kvs k b,H a=some (.dT kvs)/\y = .ref b/\H b=some (.tup (k.map kV))/\kvs.length<sizeLine/\H'=upd H a (.dT (putK kvs k v))
theorem lh.k {H:Hp} {a:Gf} {kvs:List (Key×V)} {k:Key} (e:H a=some (.dK kvs)):lh H a (kV k) (valV kvs k) := .inl ⟨kvs,k,.inl e,rfl,rfl⟩
theorem lh.t {H:Hp} {a b:Gf} {kvs:List (List Key×V)} {k:List Key} (e:H a=some (.dT kvs)) (eb:H b=some (.tup (k.map kV))):lh H a (.ref b) (valV kvs k) := .inr ⟨kvs,k,b,.inl e,rfl,eb,rfl⟩
theorem tS.k {H:Hp} {a:Gf} {kvs:List (Key×V)} {k:Key} {v:V} (e:H a=some (.dK kvs)) (hl:kvs.length<sizeLine):tS H a (kV k) v (upd H a (.dK (putK kvs k v))) := .inl ⟨kvs,k,e,rfl,hl,rfl⟩
theorem tS.t {H:Hp} {a b:Gf} {kvs:List (List Key×V)} {k:List Key} {v:V} (e:H a=some (.dT kvs)) (eb:H b=some (.tup (k.map kV))) (hl:kvs.length<sizeLine) :
  tS H a (.ref b) v (upd H a (.dT (putK kvs k v))) := .inr ⟨kvs,k,b,e,rfl,eb,hl,rfl⟩
section
variable {X:Cx} {pins:List (Gf×Io)} {σ:St} {H:Hp} {s:Gp} {a:Gf} {y v:V} {u r:Gg} {o:Option V} {A:HB} {E:Gg->Gp->Prop}
theorem Inv.big (I:Inv X pins σ H s):sysModules<s.heap.objs.size:=by
 have h:mainGlobals<s.heap.objs.size:=(I.mod.glob.keeps I.bk).lt;exact L3 (by decide) h
theorem Bz {Q:Gg->Gp->Prop} (hu:A.units+1<cLine) (I:Inv X pins σ H s) (g:lh H a y (some v)) (ry:fE y u) (h:∀ w' s',Inv X pins σ H s'->fE v w'->Q w' s') :
  wpAny (model X.prog X.w) A (getItem (.ref a) u) Q E s:=by
 rcases g with ⟨kvs,k,e,ey,l⟩ | ⟨kvs,k,b,e,ey,eb,l⟩
 ·subst ey
  obtain ⟨z,hd,vs,rel,dd⟩:=sX I.hok e;obtain ⟨w',hw,rw'⟩:=jB.some_of (v:=v) (o:=valueAt vs k) (by rw [l];exact rel.val k);exact wpAny_getItem_of (pM ry) dd.mapOf hw (h w' _ (I.tok _) rw')
 ·subst ey
  cases (show u=Hq b from ry);obtain ⟨z,hd,xs,rel,dd⟩:=sW I.hok e;obtain ⟨w',hw,rw'⟩:=jB.some_of (v:=v) (o:=(atKey xs k).map (·.2)) (by rw [l];exact rel.val k);obtain ⟨p,hp,hp2⟩:=Option.map_eq_some_iff.mp hw;refine wpAny_getItem_heap (J9 hu) (qA I.hok eb) dd hp ?_;rw [hp2];exact h w' _ (I.tok _) rw'
theorem d_in {Q:Gg->Gp->Prop} (hu:A.units+1<cLine) (I:Inv X pins σ H s) (g:lh H a y o) (ry:fE y u) (h:∀ s',Inv X pins σ H s'->Q (.bool o.isSome) s') :
  wpAny (model X.prog X.w) A (compareOp .In u (.ref a)) Q E s:=by
 rcases g with ⟨kvs,k,e,ey,l⟩ | ⟨kvs,k,b,e,ey,eb,l⟩
 ·subst ey
  obtain ⟨z,hd,vs,rel,dd⟩:=sX I.hok e;refine wpAny_in_of (pM ry) hd dd.mapOf ?_;rw [← (rel.val k).isSome_eq,← l];exact h _ (I.tok _)
 ·subst ey
  cases (show u=Hq b from ry);obtain ⟨z,hd,xs,rel,dd⟩:=sW I.hok e;refine wpAny_in_heap (J9 hu) (qA I.hok eb) hd dd ?_;have q:=(rel.val k).isSome_eq;rw [LM] at q;rw [← q,← l];exact h _ (I.tok _)
theorem FA {Q:Gg->Gp->Prop} (hu:A.units+1<cLine) (I:Inv X pins σ H s) (g:lh H a y o) (ry:fE y u) (h:∀ s',Inv X pins σ H s'->Q (.bool (!o.isSome)) s') :
  wpAny (model X.prog X.w) A (compareOp .NotIn u (.ref a)) Q E s:=by
 rcases g with ⟨kvs,k,e,ey,l⟩ | ⟨kvs,k,b,e,ey,eb,l⟩
 ·subst ey
  obtain ⟨z,hd,vs,rel,dd⟩:=sX I.hok e;refine wpAny_notIn_of (pM ry) hd dd.mapOf ?_;rw [← (rel.val k).isSome_eq,← l];exact h _ (I.tok _)
 ·subst ey
  cases (show u=Hq b from ry);obtain ⟨z,hd,xs,rel,dd⟩:=sW I.hok e;refine wpAny_notIn_heap (J9 hu) (qA I.hok eb) hd dd ?_;have q:=(rel.val k).isSome_eq;rw [LM] at q;rw [← q,← l];exact h _ (I.tok _)
theorem vV {h':GZ} {t':Nat} {ob:HO} (I:Inv X pins σ H s) (mu:Mut (H a)) (hs:J8 a s.heap h') (he:∃ q,h'.get? a=some q) (new:f8 X.prog X.w (upd H a ob) h' a ob) :
  Inv X pins σ (upd H a ob) { s with heap:=h',toks:=t' } :=
 I.write (x:=a) (e:=a) mu (.inl rfl) (fun b q hb z=>(hs.2 b hb).trans z) he new
theorem D0 {P:Hk} {w:Hy} {H':Hp} {h':GZ} {kvs:List (Key×V)} {vs:List (Key×Gg)} (z:kvs.length<=sizeLine) (hd:(a == sysModules)=false) (rel:KV kvs vs) (dd:h'.DictOf (mixKind P w) a vs) :
  f8 P w H' h' a (.dK kvs):=⟨z,hd,vs,rel,dd⟩
theorem By {H':Hp} {Q:Unit->Gp->Prop} (hu:A.units+1<cLine) (I:Inv X pins σ H s) (g:tS H a y v H') (ry:fE y u) (rv:fE v r) (h:∀ s',Inv X pins σ H' s'->Q () s') :
  wpAny (model X.prog X.w) A (setItem (.ref a) u r) Q E s:=by
 rcases g with ⟨kvs,k,e,ey,l,eH⟩ | ⟨kvs,k,b,e,ey,eb,l,eH⟩
 ·subst ey eH
  obtain ⟨z,hd,vs,rel,dd⟩:=DZ I.hok e;have hz:vs.length<=sizeLine:=by rw [← rel.length];exact z
  have hl:(putK kvs k v).length<=sizeLine:=by have:=jy kvs k v;omega
  refine wpAny_setItem_pairs (hsz:=hz) (pM ry) dd fun h' dd' hs=>h _ ?_
  have he:∃ q,h'.get? a=some q:=let ⟨q,_,_,hq,_⟩:=dd';⟨q,hq⟩
  exact vV I (by rw [e];exact JN) hs he (D0 hl hd (rel.put k rv) dd')
 ·subst ey eH
  cases (show u=Hq b from ry);obtain ⟨z,hd,xs,rel,dd⟩:=dt_of I.hok e;have hz:xs.length<=sizeLine:=by rw [← JS rel];exact z
  have hl:(putK kvs k v).length<=sizeLine:=by have:=jy kvs k v;omega
  refine wpAny_setItem_heap (hsz:=hz) (J9 hu) (qA I.hok eb) dd fun h' dd' hs=>h _ ?_
  obtain ⟨q,es,ep,hq,h2,h3,h4,_,h5⟩:=dd';refine vV I (by rw [e];exact JN) hs ⟨q,hq⟩ ⟨hl,hd,_,(rel.put k eb rv).keeps fun c ys ec=>?_,q,es,ep,hq,h2,h3,h4,h5⟩
  rw [eK (fG ec e (fun z=>nomatch z))]
  exact ec
end
section
variable {X:Cx} {pins:List (Gf×Io)} {σ:St} {H:Hp} {s:Gp} {a:Gf} {kvs:List (Key×V)} {k:Key} {u:Gg} {A:HB} {E:Gg->Gp->Prop}
end
def NoSl (i:HM):Prop:=∀ ov iv,subscripted i false ov iv=operate [ov,iv] (getItem ov iv)
theorem zj {prog:Hk} {w:Hy} {A:HB} {E:Gg->Gp->Prop} {s:Gp} {env:L5} {value slice:HM} {pos:Kv} {T id:String} {Q:Gg->Gp->Prop}
  (hl:typeLookup (.type T) "__getitem__"=pure (some (.builtin id))) (hs:NoSl slice)
  (h:wpAny (model prog w) A (eval value env) (fun o s₁=>wpAny (model prog w) A (eval slice env) (fun i s₂=>s₂.TypeIs o T/\wpAny (model prog w) A (getItem o i) Q E s₂) E s₁) E s) :
  wpAny (model prog w) A (eval (.Subscript value slice pos) env) Q E s:=by
 refine Subscript_ (Iv h (fun o s₁ h₁=>Iv h₁ (fun i s₂ h₂=>?_) fun _ _ x=>x) fun _ _ x=>x)
 obtain ⟨hT,h₂⟩:=h₂;unfold subscriptTail;refine Gm ?_;rw [getitemInPython_of_ne hT.not_modules];refine Gm (wpAny_specialOf hT hl ?_);have fin:wpAny (model prog w) A (subscripted slice false o i) (fun r s₃=>wpAny (model prog w) A (letTemporaryGo value o r >>= fun _=>pure r) Q E s₃) E s₂:=by
  rw [hs o i];exact wpAny_operating (Iv h₂ (fun r s₃ h₃=>Gm (wpAny_letTemporaryGo (GY h₃))) fun _ _ x=>x)
 first
  | exact GY (Gm fin)
  | exact Gm (GY (Gm fin))
  | exact Gm fin
theorem xE {X:Cx} {pins:List (Gf×Io)} {σ:St} {H:Hp} {s:Gp} {a:Gf} {y:V} {o:Option V} (I:Inv X pins σ H s) (g:lh H a y o):s.TypeIs (.ref a) "dict":=by
 rcases g with ⟨kvs,k,e,_,_⟩ | ⟨kvs,k,b,e,_,_,_⟩
 ·obtain ⟨_,_,vs,_,dd⟩:=sX I.hok e
  exact dd.typeIs
 ·obtain ⟨_,_,xs,_,dd⟩:=sW I.hok e
  exact dd.typeIs
def tDGet (td ty:TE):TE:=fun σ H Q=>td σ H fun x H1=>ty σ H1 fun y H2=>∃ a v,x = .ref a/\lh H2 a y (some v)/\Q v H2
def tDIn (ty td:TE):TE:=fun σ H Q=>ty σ H fun y H1=>td σ H1 fun x H2=>∃ a o,x = .ref a/\lh H2 a y o/\Q (.bl o.isSome) H2
def Ev (ty td:TE):TE:=fun σ H Q=>ty σ H fun y H1=>td σ H1 fun x H2=>∃ a o,x = .ref a/\lh H2 a y o/\Q (.bl (!o.isSome)) H2
def sDPut (td ty tv:TE):TS:=fun D σ H=>tv σ H fun v H1=>td σ H1 fun x H2=>ty σ H2 fun y H3=>∃ a H4,x = .ref a/\tS H3 a y v H4/\D.nx σ H4
section
variable {X:Cx} {o i e value:HM} {pos pos' tpos:Kv} {td ty tv:TE}
theorem Ab (hu:X.A.units+1<cLine) (ho:PE X o td) (hi:PE X i ty) (hs:NoSl i):PE X (.Subscript o i pos) (tDGet td ty):=by
 intro pins s σ H Q I h;refine zj Mg.lookup hs (thn (ho pins s σ H _ I h) fun u s1 ⟨x,H1,I1,rx,q1⟩=>thn (hi pins s1 σ H1 _ I1 q1) fun iv s2 ⟨y,H2,I2,ry,a,v,ex,g,q2⟩=>?_)
 subst ex;obtain rfl:u=Hq a:=rx;exact ⟨xE I2 g,Bz hu I2 g ry fun w' s3 I3 rw'=>⟨v,H2,I3,rw',q2⟩⟩
theorem yo (hu:X.A.units+1<cLine) (hi:PE X i ty) (ho:PE X o td):PC X .In i o (tDIn ty td):=by
 intro pins s σ H Q I h;refine thn (hi pins s σ H _ I h) fun iv s1 ⟨y,H1,I1,ry,q1⟩=>thn (ho pins s1 σ H1 _ I1 q1) fun u s2 ⟨x,H2,I2,rx,a,ov,ex,g,q2⟩=>?_
 subst ex;obtain rfl:u=Hq a:=rx;exact d_in hu I2 g ry fun s3 I3=>⟨.bl ov.isSome,H2,I3,rfl,q2⟩
theorem A1 (hu:X.A.units+1<cLine) (hi:PE X i ty) (ho:PE X o td):PC X .NotIn i o (Ev ty td):=by
 intro pins s σ H Q I h;refine thn (hi pins s σ H _ I h) fun iv s1 ⟨y,H1,I1,ry,q1⟩=>thn (ho pins s1 σ H1 _ I1 q1) fun u s2 ⟨x,H2,I2,rx,a,ov,ex,g,q2⟩=>?_
 subst ex;obtain rfl:u=Hq a:=rx;exact FA hu I2 g ry fun s3 I3=>⟨.bl (!ov.isSome),H2,I3,rfl,q2⟩
theorem rh (hu:X.A.units+1<cLine) (ho:PE X o td) (hi:PE X i ty) (hv:PE X value tv) (hs:swapsWith value (some (.Subscript o i pos')) pos.line X.env=pure false) :
  PS X (.Assign [.Subscript o i pos'] value pos) (sDPut td ty tv):=by
 intro pins s σ H D I h;refine wpAny_Assign_Subscript (thn (hv pins s σ H _ I h) fun r s1 ⟨v,H1,I1,rv,q1⟩=>thn (ho pins s1 σ H1 _ I1 q1) fun u s2 ⟨x,H2,I2,rx,q2⟩=>thn (hi pins s2 σ H2 _ I2 q2) fun iv s3 ⟨y,H3,I3,ry,a,H4,ex,g,q3⟩=>?_) hs
 subst ex;obtain rfl:u=Hq a:=rx;exact By hu I3 g ry rv fun s4 I4=>⟨σ,H4,I4,q3⟩
end
theorem xD {P:Hk} {w:Hy} {H:Hp} (h:GZ) (hb:sysModules<h.objs.size):f8 P w H (h.push { cls := .type "dict",data := .dict #[] }) h.objs.size (.dK []) :=
 ⟨G5 _,beq_eq_false_iff_ne.mpr (HA (Hu hb)),[],.nil,GZ.DictOf.new h⟩
theorem DX {P:Hk} {w:Hy} {H:Hp} (h:GZ) (hb:sysModules<h.objs.size):f8 P w H (h.push { cls := .type "dict",data := .dict #[] }) h.objs.size (.dT []) :=
 ⟨G5 _,beq_eq_false_iff_ne.mpr (HA (Hu hb)),[],.nil,_,#[],0,Hi _ rfl,⟨rfl,rfl,rfl⟩,rfl,rfl,List.nodup_nil⟩
def tDNewK:TE:=fun _ H Q=>∀ p,H p=none->Q (.ref p) (upd H p (.dK []))
def tDNewT:TE:=fun _ H Q=>∀ p,H p=none->Q (.ref p) (upd H p (.dT []))
section
variable {X:Cx} {pos:Kv}
theorem CZ:PE X (.Dict [] [] pos) tDNewK:=fun pins s σ H Q I h =>
 wpAny_Dict_empty ⟨.ref s.heap.objs.size,_,I.laid (a:=s.heap.objs.size) (o := .dK []) (t':=s.toks) (fun _ _ q=>Gx _ q) (Go _) (xD s.heap I.big),rfl,h _ (I.hok.fresh (Go _))⟩
theorem CY:PE X (.Dict [] [] pos) tDNewT:=fun pins s σ H Q I h =>
 wpAny_Dict_empty ⟨.ref s.heap.objs.size,_,I.laid (a:=s.heap.objs.size) (o := .dT []) (t':=s.toks) (fun _ _ q=>Gx _ q) (Go _) (DX s.heap I.big),rfl,h _ (I.hok.fresh (Go _))⟩
end
def yb:List (TE×TE)->St->Hp->(List (V×V)->Hp->Prop)->Prop
 | [],_,H,Q=>Q [] H
 | (tk,tv)::r,σ,H,Q=>tk σ H fun x H1=>tv σ H1 fun y H2=>yb r σ H2 fun ps H3=>Q ((x,y)::ps) H3
abbrev VV:List (V×V)->List (Gg×Gg)->Prop:=Jg fun p q=>fE p.1 q.1/\fE p.2 q.2
def PPs (X:Cx) (pos:Kv) (keys:List (Option HM)) (values:List HM) (trs:List (TE×TE)):Prop :=
 ∀ (pins:List (Gf×Io)) (s:Gp) (σ:St) (H:Hp) (Q:List (V×V)->Hp->Prop),Inv X pins σ H s->yb trs σ H Q ->
  wpAny (model X.prog X.w) X.A (evalPairs (pairTrees keys values X.env pos)) (fun vs s'=>∃ ps H',Inv X pins σ H' s'/\VV ps vs/\Q ps H') X.xe s
theorem EQ {X:Cx} {pos:Kv}:PPs X pos [] [] []:=fun pins s σ H Q I h=>pairTrees_nil_walk ⟨[],H,I,.nil,h⟩
theorem CP {X:Cx} {pos:Kv} {k v:HM} {ks:List (Option HM)} {vs:List HM} {tk tv:TE} {trs:List (TE×TE)} (hk:PE X k tk) (hv:PE X v tv) (hr:PPs X pos ks vs trs) :
  PPs X pos (some k::ks) (v::vs) ((tk,tv)::trs):=fun pins s σ H Q I h =>
 pairTrees_cons_walk (thn (hk pins s σ H _ I h) fun u s1 ⟨x,H1,I1,rx,q1⟩=>thn (hv pins s1 σ H1 _ I1 q1) fun w2 s2 ⟨y,H2,I2,ry,q2⟩ =>
  thn (hr pins s2 σ H2 _ I2 q2) fun ws s3 ⟨ps,H3,I3,rel,q3⟩=>⟨(x,y)::ps,H3,I3,.cons ⟨rx,ry⟩ rel,q3⟩)
def mergeK (kvs more:List (Key×V)):List (Key×V):=more.foldl (fun acc kv=>putK acc kv.1 kv.2) kvs
theorem KV.merge:∀ {more:List (Key×V)} {rs:List (Key×Gg)} {kvs:List (Key×V)} {vs:List (Key×Gg)},KV more rs->KV kvs vs->KV (mergeK kvs more) (merged vs rs):=by
 intro more rs kvs vs r;unfold KV at r;induction r generalizing kvs vs with
 | nil=>intro q;exact q
 | @cons p q ps qs h t ih =>
  intro r0;have e:KV (putK kvs p.1 p.2) (stored vs q.1 q.2):=by
   have:=r0.put p.1 h.2;rw [← h.1];exact this
  exact ih e
theorem kX:∀ (more kvs:List (Key×V)),(mergeK kvs more).length<=kvs.length+more.length
 | [],kvs=>by show kvs.length<=kvs.length+0;omega
 | p::r,kvs=>by
  have h1:=kX r (putK kvs p.1 p.2);have h2:=jy kvs p.1 p.2;show (mergeK (putK kvs p.1 p.2) r).length<=_;rw [GQ];omega
theorem tf {P:Hk} {w:Hy}:∀ {kvs:List (Key×V)} {ws:List (Gg×Gg)},VV (kvs.map fun kv=>(kV kv.1,kv.2)) ws->∃ rs,Carries (mixKind P w) ws rs/\KV kvs rs
 | [],_,r=>by rw [KL] at r;cases r;exact ⟨[],JN,.nil⟩
 | p::kvs,_,r=>by
  rw [Hs] at r;cases r with
  | @cons a b as bs h t =>
   obtain ⟨rs,c,q⟩:=tf (P:=P) (w:=w) t;obtain ⟨b1,b2⟩:=b;exact ⟨(p.1,b2)::rs,⟨pM h.1,rfl,c⟩,.cons ⟨rfl,h.2⟩ q⟩
def tDisp (trs:List (TE×TE)):TE:=fun σ H Q=>∀ p,H p=none->yb trs σ (upd H p (.dK [])) fun ps H2=>H2 p=some (.dK [])/\∃ kvs:List (Key×V),ps=kvs.map (fun kv=>(kV kv.1,kv.2))/\kvs.length<=15/\Q (.ref p) (upd H2 p (.dK (mergeK [] kvs)))
theorem EX {X:Cx} {pos:Kv} {keys:List (Option HM)} {values:List HM} {trs:List (TE×TE)} (h:PPs X pos keys values trs) (hall:keys.all (·.isSome)=true) (hl:keys.length=values.length) (h0:keys≠[])
  (h15:keys.length<=15):PE X (.Dict keys values pos) (tDisp trs):=by
 intro pins s σ H Q I q;have hn:=I.hok.fresh (Go s.heap.objs.size);have I1:=I.laid (a:=s.heap.objs.size) (o := .dK []) (h':=s.heap.push { cls := .type "dict",data := .dict #[] }) (t':=s.toks) (fun _ _ q=>Gx _ q) (Go _) (xD s.heap I.big)
 refine wpAny_Dict_walk (knd:=mixKind X.prog X.w) hall hl h0 h15 (thn (h pins _ σ _ _ I1 (q _ hn)) fun ws s2 ⟨ps,H2,I2,rel,e,kvs,ep,lk,q2⟩=>?_)
 subst ep;obtain ⟨rs,c,rk⟩:=tf (P:=X.prog) (w:=X.w) rel;obtain ⟨z,hd,vs0,r0,dd⟩:=DZ I2.hok e;cases r0;refine ⟨rs,c,dd,fun h' dd' hs=>⟨.ref s.heap.objs.size,_,?_,rfl,q2⟩⟩
 have hz:(mergeK [] kvs).length<=sizeLine:=by
  have h1:=kX kvs [];rw [Ja] at h1;rw [Hj];omega
 have he:∃ q,h'.get? s.heap.objs.size=some q:=let ⟨q,_,_,hq,_⟩:=dd';⟨q,hq⟩
 exact vV I2 (by rw [e];exact JN) hs he (D0 hz hd (rk.merge .nil) dd')
structure M2 (X:Cx) (o:HM) (m:G9) (apos:Kv) (e f:HM) (cpos:Kv):Prop where
 base:attributeBase o m X.env (eval o X.env)=eval o X.env
 few:((backTo cpos (starEach [e,f] X.env)).all (fun x => !x.1) && (backToKw cpos (keywordEach [] X.env)).all (fun x=>x.1.isSome)
  && decide (([e,f]:List HM).length+([]:List Keyword).length+(if ([]:List Keyword).isEmpty then 0 else 1)<30))=true
 line:(apos.endLine == cpos.line)=true
 trees:backTo cpos (starEach [e,f] X.env)=[(false,eval e X.env),(false,eval f X.env)]
def IsD (H:Hp) (a:Gf):Prop:=(∃ kvs,Rd H a (.dK kvs))∨∃ kvs,Rd H a (.dT kvs)
theorem isD_at {X:Cx} {pins:List (Gf×Io)} {σ:St} {H:Hp} {s:Gp} {a:Gf} (I:Inv X pins σ H s) (d:IsD H a) :
  s.TypeIs (.ref a) "dict" /\ (∀ b,Hq a = .ref b->∃ ob,s.heap.get? b=some ob/\ob.dict=none)/\(a == sysModules)=false:=by
 rcases d with ⟨kvs,e⟩ | ⟨kvs,e⟩
 ·obtain ⟨_,hd,vs,_,dd⟩:=sX I.hok e
  refine ⟨dd.typeIs,fun b q=>?_,hd⟩
  cases q;obtain ⟨ob,_,_,h1,h2,_⟩:=dd;exact ⟨ob,h1,h2.2.1⟩
 ·obtain ⟨_,hd,xs,_,dd⟩:=sW I.hok e
  refine ⟨dd.typeIs,fun b q=>?_,hd⟩
  cases q;obtain ⟨ob,_,_,h1,h2,_⟩:=dd;exact ⟨ob,h1,h2.2.1⟩
section
variable {X:Cx} {pins:List (Gf×Io)} {σ:St} {H:Hp} {s:Gp} {a:Gf} {y d:V} {u r:Gg} {o:Option V} {A:HB} {E:Gg->Gp->Prop}
theorem d_get2 {Q:Gg->Gp->Prop} (hu:A.units+1<cLine) (I:Inv X pins σ H s) (g:lh H a y o) (ry:fE y u) (rd:fE d r) (h:∀ w' s',Inv X pins σ H s'->fE (o.getD d) w'->Q w' s') :
  wpAny (model X.prog X.w) A (call (.builtin "dict.get") [.ref a,u,r]) Q E s:=by
 rcases g with ⟨kvs,k,e,ey,l⟩ | ⟨kvs,k,b,e,ey,eb,l⟩
 ·subst ey
  obtain ⟨z,hd,vs,rel,dd⟩:=sX I.hok e;refine call_meetsIn Lc dd.typeIs PySem.F.entry_dict_get (PySem.F.args_dict_get_3 _ _ _) (meets_dict_get_default (mixKind X.prog X.w) a (pM ry) hd r) ⟨_,dd.mapOf,h _ _ (I.tok _) ?_⟩;rw [l];exact (rel.val k).getD rd
 ·subst ey
  cases (show u=Hq b from ry);obtain ⟨z,hd,xs,rel,dd⟩:=sW I.hok e;refine call_meetsIn Lc dd.typeIs PySem.F.entry_dict_get (PySem.F.args_dict_get_3 _ _ _) (meetsH_dict_get_default (tupleKind (mixKind X.prog X.w)) a b hd r) ⟨J9 hu,k,xs,qA I.hok eb,dd,h _ _ (I.tok _) ?_⟩;rw [l];exact (rel.val k).getD rd
end
def tDGet2 (td ty tx:TE):TE:=fun σ H Q=>td σ H fun x H1=>∃ a,x = .ref a/\IsD H1 a/\ty σ H1 fun y H2=>tx σ H2 fun z H3=>∃ o,lh H3 a y o/\Q (o.getD z) H3
section
variable {X:Cx} {o e f:HM} {apos cpos:Kv} {td ty tx:TE}
theorem w8 (hu:X.A.units+1<cLine) (ho:PE X o td) (he:PE X e ty) (hf:PE X f tx) (m:M2 X o "get" apos e f cpos):PE X (.Call (.Attribute o "get" apos) [e,f] [] cpos) (tDGet2 td ty tx):=by
 intro pins s σ H Q I h;refine wpAny_Call_method m.base m.few m.line PySem.F.plainAttrs_dict Lc PySem.F.type_dict_get (thn (ho pins s σ H _ I h) fun u s1 ⟨x,H1,I1,rx,a,ex,d,q1⟩=>?_)
 subst ex;obtain rfl:u=Hq a:=rx;obtain ⟨t1,t2,_⟩:=isD_at I1 d;refine ⟨t1,t2,?_⟩;rw [m.trees];refine Ld rfl (Calls.evalArgs_plain (LK (thn (he pins s1 σ H1 _ I1 q1) fun iv s2 ⟨y,H2,I2,ry,q2⟩ =>
  LK (thn (hf pins s2 σ H2 _ I2 q2) fun fv s3 ⟨z,H3,I3,rz,ov,g,q3⟩=>Calls.spliced_nil ?_))))
 exact d_get2 hu I3 g ry rz fun w' s4 I4 rw'=>⟨_,H3,I4,rw',q3⟩
end
section
variable {X:Cx} {pins:List (Gf×Io)} {σ:St} {H:Hp} {s:Gp} {a:Gf} {kvs:List (Key×V)} {A:HB} {E:Gg->Gp->Prop}
end
section
variable {X:Cx} {pins:List (Gf×Io)} {σ:St} {H:Hp} {s:Gp} {a:Gf} {y:V} {u:Gg} {A:HB} {E:Gg->Gp->Prop}
end
end L2
namespace L2
open PySem PySem.Spec PyProof.Rows
theorem sL:typeLookup (.type "list") "keys"=pure none:=am_miss_of_fast (by first | decide +kernel | rfl)
theorem wq:entryFor table "dict.update.loop"=some Ht.«dict.update.loop» := entryFor_of_tree (by kernel_rfl)
theorem mw:plainId "dict.update.loop"=true:=by decide +kernel
section
variable {prog:Hk} {w:Hy} {A:HB} {E:Gg->Gp->Prop}
theorem Bk {s:Gp} {a:Gf} {o:Io} {xs:Array Gg} {k:Nat} {Q:Option Gg->Gp->Prop} (hx:s.heap.get? a=some o) (hc:o.cls = .type "list") (hdat:o.data = .seq xs k) (hd:o.dict=none) (hA:A.handled=none)
  (h:∀ h' tk,(∀ b ob,s.heap.get? b=some ob->h'.get? b=some ob)->Q none { s with heap:=h',toks:=tk }):wpAny (model prog w) A (getAttr? (.ref a) "keys") Q E s:=by
 obtain ⟨c,dct,dat,sl⟩:=o;simp only at hc hdat hd;subst hc hdat hd;obtain ⟨hp,g,d,tk,os⟩:=s;have hT:∀ tk',(⟨hp,g,d,tk',os⟩:Gp).TypeIs (.ref a) "list":=fun _=>⟨_,hx,rfl⟩
 have hmiss:=sL;have hname:(["__module__","__name__","__qualname__","__doc__","__annotations__"]:List G9).contains "keys"=false:=by decide +kernel
 have hsz:("keys":G9).length+100<=sizeLine:=by first | size_fits | decide +kernel
 have f1:=sub_AttributeError;have f3:=Kb.lookup;have f4:=Kb.bind (.ref a);have f5:=am_list_getattr_none;unfold getAttr? getAttrBy? getAttrBy;repeat (any_goals (first | assumption | exact hT _ | ((with_reducible show wpAny _ _ (call (Kh "list.__getattribute__") _ _) _ _ _);refine K3 Kb (hT _) am_entry_list_getattribute (PySem.F.args_list_getattribute_2 _ _) (meets_getattribute_miss_list a xs k sl "keys" _ hmiss hname hsz) ⟨hx,hA,fun h' tk' e hx'=>?_⟩) | wp_step))
 obtain ⟨t',u',he⟩:=hx'.there;show wpAny _ _ (getattributeRaised _ _ _ _ _ _ _) _ _ _;unfold getattributeRaised;repeat (any_goals (first | assumption | wp_step))
 all_goals first | exact h _ _ hx'.keeps | (dsimp only;repeat (any_goals (first | assumption | exact h _ _ hx'.keeps | wp_step)))
theorem wp {R:Result->Gp->Prop} {S I l:Gf} {items:Array Gg} {res:Gg} (hh:A.handled=none) (hlI:l≠I) (hSI:S≠I) (hSl:S≠l) :
  ∀ (rest:List (Key×Gg)) (i:Nat) (acc:List (Key×Gg)) (ix:Int) (t:Tok) (s:Gp),items.size=i+rest.length->acc.length+rest.length<=sizeLine ->
   (∀ (j:Nat) (q:Key×Gg),rest[j]?=some q->∃ (b:Gf) (u:Gg),items[i+j]?=some (.ref b)/\b≠S/\b≠I/\IsTup s.heap b #[u,q.2]/\mS q.1 u=true) ->
   s.heap.IsListIter I l i->s.heap.IsList l items->s.heap.DictOf (mixKind prog w) S acc ->
   (∀ h' tk,h'.DictOf (mixKind prog w) S (merged acc rest)->(∀ b o,b≠S->b≠I->s.heap.get? b=some o->h'.get? b=some o)->R (.ok (.ret res)) { s with heap:=h',toks:=tk }) ->
   codeAny (model prog w) A (.builtin "dict.update.loop" ⟨[.ref S,.ref I,.int ix t,res],[]⟩) R s
 | [],i,acc,ix,t,s,hsz,hln,ht,hit,hl,hm,hR=>by
  refine KP wq ?_;rw [JJ mw _];show wpAny _ A.in1 (pyNext (.ref I) >>= _) _ _ s;refine Gm (wpAny_pyNext_list_end (A:=A.in1) hh hit hl (by first | exact Array.getElem?_eq_none (Lk hsz) | (simp at hsz;simp;omega)) fun h' he=>?_)
  show wpAny _ A.in1 (Ht.Dict.addKeywords S [] >>= _) _ _ _;refine Gm (GY (GY ?_));exact hR h' s.toks (hm.extBut he hSI) fun b o _ hb e=>he b o hb e
 | q::rest,i,acc,ix,t,s,hsz,hln,ht,hit,hl,hm,hR=>by
  obtain ⟨b,u,hb,hbS,hbI,htup,hk⟩:=ht 0 q rfl;rw [GQ] at hsz hln;refine KP wq ?_;rw [JJ mw _];show wpAny _ A.in1 (pyNext (.ref I) >>= _) _ _ s;refine Gm (wpAny_pyNext_list_item (x := .ref b) hit hl (by simpa using hb) fun h1 hit1 hs1=>?_)
  have ht1:IsTup h1 b #[u,q.2]:=htup.extBut hs1.extBut hbI;have hl1:h1.IsList l items:=hl.extBut hs1.extBut hlI;have hm1:h1.DictOf (mixKind prog w) S acc:=hm.extBut hs1.extBut hSI;obtain ⟨o,ho,hc,n,hd⟩:=id ht1;show wpAny _ A.in1 (holding [Hq b] _ >>= _) _ _ _;refine Gm (Jr ?_);refine Gm (Kk ?_);unfold Ht.Dict.pairItems;refine Gm (wpAny_typeOf (T := "tuple") ⟨o,ho,hc⟩ ?_);rw [Ga (by first | decide | rfl | simp)]
  refine Gm (LP ho hd (GY ?_));show wpAny _ A.in1 (holding [u,q.2] (dictSet S u q.2)) _ _ _;refine Jr (wpAny_dictSet_pairs (knd:=mixKind prog w) (k:=q.1) hk hm1 (fun h2 hm2 hs2=>?_) (by omega))
  refine GY ⟨J7 mw _,wp (items:=items) hh hlI hSI hSl rest (i+1) (stored acc q.1 q.2) (ix+1) 0 _ (show items.size=i+1+rest.length by omega) ?_ (fun j q' e=>?_) ?_ ?_ hm2 fun h' tk hd' k=>?_⟩
  ·have z:=stored_length_le acc q.1 q.2
   omega
  ·obtain ⟨b',u',hb',hbS',hbI',htup',hk'⟩:=ht (j+1) q' (by simpa using e)
   refine ⟨b',u',?_,hbS',hbI',(htup'.extBut hs1.extBut hbI').extBut hs2.extBut hbS',hk'⟩;rw [show i+1+j=i+(j+1) by omega];exact hb'
  ·exact hit1.at fun o' e=>hs2.extBut I o' (HA hSI) e
  ·exact hl1.extBut hs2.extBut (HA hSl)
  ·exact hR h' tk hd' fun c oc h3 h4 e=>k c oc h3 h4 (hs2.extBut c oc h3 (hs1.extBut c oc h4 e))
theorem qT {s:Gp} {l:Gf} {ol:Io} {items:Array Gg} {n:Nat} {prs:List (Key×Gg)} {Q:Gg->Gp->Prop} (hh:A.handled=none) (hl:s.heap.get? l=some ol) (hc:ol.cls = .type "list") (hd:ol.dict=none)
  (hdat:ol.data = .seq items n) (hsz:items.size=prs.length) (hln:prs.length<=sizeLine)
  (ht:∀ (j:Nat) (q:Key×Gg),prs[j]?=some q->∃ (b:Gf) (u:Gg),items[j]?=some (.ref b)/\IsTup s.heap b #[u,q.2]/\mS q.1 u=true)
  (h:∀ h' tk,h'.DictOf (mixKind prog w) s.heap.objs.size (merged [] prs)->(∀ b o,s.heap.get? b=some o->h'.get? b=some o)->Q (.ref s.heap.objs.size) { s with heap:=h',toks:=tk }) :
  wpAny (model prog w) A (call (.type "dict") [.ref l]) Q E s:=by
 refine callType_codes (Q₁:=fun obj s₁=>obj = .ref s.heap.objs.size/\s₁={ s with heap:=s.heap.push { cls := .type "dict",data := .dict #[] } }) PySem.F.kt_called_dict (PySem.F.kt_typeCall_dict_1 _) PySem.F.entry_dict_init (kt_code_dict_new _ ⟨rfl,rfl⟩) ?_
 rintro obj s₁ ⟨rfl,rfl⟩
 have hnew:(s.heap.push { cls := .type "dict",data := .dict #[] }).DictOf (mixKind prog w) s.heap.objs.size []:=GZ.DictOf.new s.heap;have k0:∀ b o,s.heap.get? b=some o->(s.heap.push { cls := .type "dict",data := .dict #[] }).get? b=some o:=fun b o e=>Gx _ e
 refine ⟨hnew.typeIs,PySem.F.args_dict_init_2 _ _,?_⟩;unfold Ht.«dict.__init__»;refine Gm ?_;unfold Ht.Dict.selfAndRest;refine Gm (wpAny_notOrdered_dict hnew.typeIs ?_);show wpAny _ _ (pure (s.heap.objs.size,[Hq l])) _ _ _;refine GY ?_;show wpAny _ _ (L7 "dict.__init__" s.heap.objs.size (.ref l) [] .none) _ _ _;unfold L7;refine Gm (wpAny_typeOf (T := "list") ⟨ol,k0 _ _ hl,hc⟩ ?_);rw [Ga (by first | decide | rfl | simp)]
 refine Gm (Bk (k0 _ _ hl) hc hdat hd hh fun h1 tk1 hk1=>?_)
 rw [Ga (show (none:Option Gg).isNone=true from rfl)];refine Gm (wpAny_rule ?_);have hl1:h1.IsList l items:=⟨ol,hk1 _ _ (k0 _ _ hl),hc,n,hdat⟩;have hS1:s.heap.objs.size<h1.objs.size:=by
  have e:(s.heap.push { cls := .type "dict",data := .dict #[] }).get? s.heap.objs.size=some { cls := .type "dict",data := .dict #[] }:=Hi _ rfl;exact Ha (hk1 _ _ e)
 refine Gm (wpAny_pyIter_list hl1 ?_);have k2:∀ b o,h1.get? b=some o->(h1.push { cls := .type "list_iterator",data := .fields #[.ref l,.int 0 0] }).get? b=some o:=fun b o e=>Gx _ e
 have hlt:l<s.heap.objs.size:=Ha hl;have key:=wp (prog:=prog) (w:=w) (A:=A.in1) (R:=wants (fun r s₂=>r = .none/\Q (.ref s.heap.objs.size) s₂) E) (S:=s.heap.objs.size) (I:=h1.objs.size) (l:=l) (items:=items) (res:=Iy) hh
  (Hu (L3 hlt hS1)) (Hu hS1) (KN hlt) prs 0 [] 0 0
  { s with heap:=h1.push { cls := .type "list_iterator",data := .fields #[.ref l,.int 0 0] },toks:=tk1 } (by rw [hsz,IU]) (by rw [Ja,IU];exact hln)
  (fun j q e=>by
   obtain ⟨b,u,e1,e2,e3⟩:=ht j q e;have hb:b<s.heap.objs.size:=e2.lt;exact ⟨b,u,by rw [IU];exact e1,Hu hb,Hu (L3 hb hS1),e2.keeps fun c o z=>k2 _ _ (hk1 _ _ (k0 _ _ z)),e3⟩)
  ⟨_,Hi _ rfl,rfl,rfl⟩ (hl1.at fun o e=>k2 _ _ e) ((hnew.at fun o e=>hk1 _ _ e).at fun o e=>k2 _ _ e)
  (fun h' tk hd' k=>⟨rfl,h h' tk hd' fun b o e=>k b o (Hu (Ha e)) (Hu (L3 (Ha e) hS1)) (k2 _ _ (hk1 _ _ (k0 _ _ e)))⟩)
 first
  | exact GY ⟨J7 mw _,key⟩
  | exact Gm (GY (GY ⟨J7 mw _,key⟩))
end
section
variable {X:Cx}
theorem xa {pins:List (Gf×Io)} {σ:St} {H:Hp} {s:Gp} (I:Inv X pins σ H s):∀ {ps:List Gf} {kvs:List (Key×V)},Jg (fun p kv=>SqT X.K H p [kV kv.1,kv.2]) ps kvs ->
  ∃ prs:List (Key×Gg),KV kvs prs/\prs.length=ps.length/\∀ (j:Nat) (q:Key×Gg),prs[j]?=some q->∃ (b:Gf) (u:Gg),ps[j]?=some b/\IsTup s.heap b #[u,q.2]/\mS q.1 u=true
 | _,_,.nil=>⟨[],.nil,rfl,fun j q e=>by simp at e⟩
 | _,_,.cons (a:=p) (b:=kv) h t=>by
  obtain ⟨prs,r,hl,hp⟩:=xa I t;obtain ⟨its,rv,ht,_⟩:=I.tuple h;obtain ⟨u,y,ei,ru,ry⟩:=BL rv;subst ei;refine ⟨(kv.1,y)::prs,.cons ⟨rfl,ry⟩ r,by rw [GQ,GQ,hl],fun j q e=>?_⟩
  cases j with
  | zero =>
   have e':(kv.1,y)=q:=Hd e;subst e';exact ⟨p,u,rfl,ht,pM (P:=X.prog) (w:=X.w) ru⟩
  | succ j =>
   obtain ⟨b,u',e1,e2,e3⟩:=hp j q (by simpa using e);exact ⟨b,u',by simpa using e1,e2,e3⟩
theorem zZ:∀ {ps:List Gf} {us:List Gg},fu (ps.map V.ref) us->us=ps.map Hq
 | [],us,r=>by
  rw [KL] at r;cases r;rfl
 | p::ps,us,r=>by
  rw [Hs] at r;cases r with
  | cons h t =>
   cases h;rw [Hs,← zZ t]
theorem yT (hcalm:X.calm=true):mo X (.type "dict") (fun xs H Q=>∃ (a:Gf) (ps:List Gf) (kvs:List (Key×V)),xs=[.ref a]/\SqL X.K H a (ps.map V.ref)/\Jg (fun p kv=>SqT X.K H p [kV kv.1,kv.2]) ps kvs /\
  ∀ p,H p=none->Q (.ref p) (upd H p (.dK (mergeK [] kvs)))):=by
 intro pins s σ H xs us Q I r q;obtain ⟨a,ps,kvs,ex,hq,hp,q⟩:=q;subst ex;obtain ⟨u,eu,rx⟩:=vals1 r;subst eu;cases rx;obtain ⟨its,rv,pl,hz⟩:=I.list hq;have ei:=zZ rv;subst ei;rw [Ge] at hz;obtain ⟨prs,rel,hl,hpr⟩:=xa I hp;obtain ⟨o,n,ho,hc,hd,hdat⟩:=pl;refine qT (prs:=prs) (I.ok.hd hcalm) ho hc hd hdat (by simp [hl]) (by rw [hl];exact hz) (fun j q' e=>?_) fun h' tk hd' k=>?_
 ·obtain ⟨b,u,e1,e2,e3⟩:=hpr j q' e
  exact ⟨b,u,by simp [e1],e2,e3⟩
 ·have hm:(s.heap.objs.size == sysModules)=false:=beq_eq_false_iff_ne.mpr (KN I.big)
  have hlen:(mergeK [] kvs).length<=sizeLine:=by
   refine Ie (kX kvs []) ?_;rw [Ja,IU,rel.length,hl];exact hz
  exact ⟨.ref s.heap.objs.size,upd H s.heap.objs.size (.dK (mergeK [] kvs)),I.laid (t':=tk) k (Go _) (show f8 X.prog X.w _ _ _ (.dK (mergeK [] kvs)) from ⟨hlen,hm,merged [] prs,KV.merge rel .nil,hd'⟩),rfl,q _ (I.hok.fresh (Go _))⟩
end
end L2
namespace L2
open PySem PySem.Spec PyProof.Rows
theorem tu:bootBuiltins "reversed"=some (.type "reversed"):=by decide +kernel
section
variable {X:Cx} {pins:List (Gf×Io)} {σ:St} {H:Hp} {s:Gp} {h':GZ}
theorem Inv.turnedNew {t':Nat} {ch:List Gf} {T:Gf} {ob:HO} (I:Inv X pins σ H s) (k:∀ b o,b∉ch->s.heap.get? b=some o->h'.get? b=some o) (hf:∀ b∈ch,tH X pins H b) (hT:s.heap.objs.size<=T)
  (new:f8 X.prog X.w (upd H T ob) h' T ob):Inv X pins σ (upd H T ob) { s with heap:=h',toks:=t' }:=by
 have hn:H T=none:=I.hok.fresh hT;have nit:∀ b u,H b=some u->b∉ch:=fun b u e z=>by
  have q:=(hf b z).1;rw [q] at e;cases e
 refine I.step (g':=s.gens) (d':=s.drawn) (ch:=ch) (fun b hb=>⟨(hf b hb).2.2.2.1,(hf b hb).2.1,(hf b hb).2.2.2.2.1,(hf b hb).2.2.2.2.2⟩) (fun b o _ _ hc e _=>k b o hc e) (fun b o _ _ hc e _=>⟨o.slots,k b o hc e⟩)
  (fun b o _ e n=>?_) (fun b o hc e=>⟨o,k b o hc e⟩) (fun b xs e=>?_) (fun b o u e=>?_) (fun b ps e=>⟨#[],?_⟩) (fun m hm=>?_) (fun b u e=>?_) I.bare
 ·rw [eK (Hu (Ho (Ha e) hT))];exact n
 ·rw [eK (eW e hn)];exact e
 ·rw [eK (eW e hn)];exact e
 ·rw [eK (eW e hn),e];simp
 ·obtain ⟨o,es,ep,ho,r⟩:=hm
  exact ⟨o,es,ep,k _ o (fun z=>(hf _ z).2.1 rfl) ho,r⟩
 ·by_cases hb:b=T
  ·subst hb
   rw [eC] at e;cases e;exact new
  ·rw [eK hb] at e
   refine (I.hok b u e).stay (fun c v hc q=>k c v ?_ q) (fun c q=>by rw [eK (eW q hn)];exact q) fun c xs q=>by rw [eK (eW q hn)];exact q
   rcases hc with z | z
   ·rw [z];exact nit b u e
   ·exact nit c _ z
theorem Inv.lock {d:Gf} {u:HO} (I:Inv X pins σ H s) (h:H d=some u) (mu:Mut (some u)):∃ od,Inv X pins σ (upd H d (.frz od u)) s:=by
 have x:=I.hok d u h;have ex:∃ od,s.heap.get? d=some od:=by
  cases u with
  | lst xs=>obtain ⟨_,_,_,_,e⟩:=x;exact ⟨_,e⟩
  | dK kvs=>obtain ⟨_,_,_,_,o,_,_,e,_⟩:=x;exact ⟨o,e⟩
  | dT kvs=>obtain ⟨_,_,_,_,o,_,_,e,_⟩:=x;exact ⟨o,e⟩
  | set S n=>obtain ⟨o,_,_,_,e,_⟩:=x;exact ⟨o,e⟩
  | ins C dx fs=>obtain ⟨_,_,_,e,_⟩:=x;exact ⟨_,e⟩
  | ext φ=>obtain ⟨_,⟨_,e⟩,_⟩:=x;exact ⟨_,e⟩
  | _=>exact HW mu
 obtain ⟨od,e⟩:=ex;have new:f8 X.prog X.w (upd H d (.frz od u)) s.heap d (.frz od u):=by
  refine ⟨e,x.stay (fun b v _ q=>q) (fun b q=>?_) fun b xs q=>?_⟩
  ·rw [eK (fun z=>by rw [z,h] at q;cases q;exact mu)];exact q
  ·rw [eK (fun z=>by rw [z,h] at q;cases q;exact mu)];exact q
 exact ⟨od,I.write (x:=d) (e:=d) (t':=s.toks) (h':=s.heap) (by rw [h];exact mu) (.inl rfl) (fun b v _ q=>q) ⟨od,e⟩ new⟩
end
section
variable {X:Cx}
theorem vE {tg:HM} {pins:List (Gf×Io)} {σ:St} {H:Hp} {s:Gp} {R:It->Hp->Prop} {J:It} {tn:Nat->GZ->Prop} {tk:Nat} (I:Inv X pins σ H s) (o:Io)
  (T:tR X.prog X.w X.K tg J [s.heap.objs.size] s.heap.objs.size tn) (st:tn 0 (s.heap.push o)) (q:R J H):PIE X pins σ tg R (.ref s.heap.objs.size) { s with heap:=s.heap.push o,toks:=tk }:=by
 refine ⟨s.heap.objs.size,[s.heap.objs.size],tn,J,H,rfl,I.kept fun b ob e=>Gx _ e,T,st,fun b hb=>?_,q⟩
 have e:b=s.heap.objs.size:=by simpa using hb
 subst e;exact I.fpOk (Go _) (I.hok.fresh (Go _))
end
def Itc (lo c:Int) (n:Nat):It:=⟨fun i _=>i<n,fun i H x H'=>H'=H/\x = .int (lo+(i:Nat)*c),fun i _=>n<=i⟩
theorem wt {P:Hk} {w:Hy} {K:Gh} {tg:HM} (it:Gf) (lo c:Int) (n:Nat):tR P w K tg (Itc lo c n) [it] it (fun i h=>IsRangeIter h it (lo+(i:Nat)*c) ((n:Int)-(i:Nat)) c) where
 mem:=by simp
 obj:=fun i h st b hb=>by
  have e:b=it:=by simpa using hb
  subst e;exact ⟨_,st,fun v z=>nomatch z⟩
 keep:=fun i h h' st k=>k it (by simp) _ st
 item:=by
  intro X hP hw hK hc i pins s σ H E I hf st hg;subst hP hw hK;obtain ⟨f0,f1,f2,f3,f4,f5⟩:=hf it (by simp);have W:=Walks.range (prog:=X.prog) (w:=X.w) (I.ok.hd hc) it lo c n;refine W.item i s _ _ hg st fun v h' tk hv st' kk=>?_
  obtain ⟨t,rfl⟩:=hv;have I1:Inv X pins σ H { s with heap:=h',toks:=tk }:=I.turned (fun b o hb e=>kk b o (by simpa using hb) e) f0 f1 f3 f4 f5
  exact ⟨_,rfl,sP (s:={ s with heap:=h',toks:=tk }) (n := "range_iterator") st' rfl rfl (by decide) ⟨.int (lo+(i:Nat)*c),H,I1,⟨t,rfl⟩,⟨rfl,rfl⟩,st',fun b hb=>(hf b hb).1⟩⟩
 done:=by
  intro X hP hw hK hc i pins s σ H E I hf st hg;subst hP hw hK;obtain ⟨f0,f1,f2,f3,f4,f5⟩:=hf it (by simp);exact wpAny_pyNext_range_end (I.ok.hd hc) st (by have:n<=i:=hg;omega) fun h' eb=>⟨rfl,I.turned (t':=s.toks) (fun b o hb e=>eb b o hb e) f0 f1 f3 f4 f5⟩
 self:=fun A i s Q E st h=>wpAny_pyIter_rangeiter st h
def RgC (i j c:Int) (n:Nat):Prop:=c≠0/\c.natAbs<1073741824/\Ht.Range.small i j c=true/\KG i j c=n
theorem RgC.neg {i j:Int} (ha : -(2 ^ 62)<=i) (ha':i<2 ^ 62) (hb : -(2 ^ 62)<=j) (hb':j<2 ^ 62):RgC i j (-1) (i-j).toNat :=
 ⟨by decide,by decide,PySem.W.small_down ha ha' hb hb',PySem.W.rangeSize_downNat i j⟩
def iRng3 (ta:TA):TI:=fun σ H R=>ta σ H fun vs H1=>∃ (i j c:Int) (n:Nat),vs=[.int i,.int j,.int c]/\RgC i j c n/\R (Itc i c n) H1
section
variable {X:Cx} {tg:HM}
theorem AZ {a b c:HM} {ta:TA} {p pos:Kv} (hg:Gl X "range") (hm:X.mg "range"=none) (ha:PA X [a,b,c] ta)
  (hs:starEach [a,b,c] X.env=(false,eval a X.env)::starEach [b,c] X.env:=by rfl) (hpl:(backTo pos (starEach [b,c] X.env)).any (·.1)=false:=by rfl) :
  PI X tg (.Call (.Name "range" p) [a,b,c] [] pos) (iRng3 ta):=by
 intro pins s σ H R I h;refine Call_ (oK I hg hm boot_range (IV (thn (ha pos pins s σ H _ I h) fun us s1 ⟨vs,H1,I1,r1,q1⟩=>?_) hs hpl))
 obtain ⟨i,j,k,n,e,⟨c0,c1,c2,c3⟩,q⟩:=q1;subst e;cases r1 with
 | cons r rr =>
  cases rr with
  | cons r' rr =>
   cases rr with
   | cons r'' rr =>
    cases rr;obtain ⟨t,rfl⟩:=r;obtain ⟨t',rfl⟩:=r';obtain ⟨t'',rfl⟩:=r'';refine call_range_3 c0 ?_ (.inl (PyProof.noPylong_small c1));refine wpAny_pyIter_range (IsRange.new ..) c2 ?_;have I2:Inv X pins σ H1 { s1 with heap:=s1.heap.push { cls := .type "range",data := .fields #[.int i t,.int j t',.int k t''] } }:=I1.kept (t':=s1.toks) fun b o e=>Gx _ e
    refine vE (tk:=s1.toks) I2 _ (wt _ i k n) ?_ q;have e1:i+((0:Nat):Int)*k=i:=by simp
    have e2:(n:Int)-((0:Nat):Int)=KG i j k:=by rw [c3];simp
    show IsRangeIter _ _ (i+((0:Nat):Int)*k) ((n:Int)-((0:Nat):Int)) k;rw [e1,e2];exact Hi _ rfl
end
theorem yL {lo c:Int} {n:Nat} {g:TG} {tb:TS} {D:tI} {σ:St} {H:Hp} (Pv:Nat->St->Hp->Prop) (h0:Pv 0 σ H)
  (hs:∀ i σ H,i<n->Pv i σ H->g (.int (lo+(i:Nat)*c)) σ H fun σ2 H2=>tb { D with nx:=Pv (i+1),ct:=Pv (i+1),bk:=D.nx } σ2 H2) (hd:∀ σ H,Pv n σ H->D.nx σ H) :
  ∃ W:Nat->Nat->St->Hp->Prop,(∃ m,W 0 m σ H)/\∀ i m σ H,W i m σ H ->
   ((Itc lo c n).stop i H/\D.nx σ H)∨((Itc lo c n).go i H/\∃ N:St->Hp->Prop,(∀ σ' H',N σ' H'->∃ m',m'<m/\W (i+1) m' σ' H')/\∀ x H',(Itc lo c n).yld i H x H'->g x σ H' fun σ2 H2=>tb { D with nx:=N,ct:=N,bk:=D.nx } σ2 H2):=by
 refine ⟨fun i m σ H=>m=n-i/\i<=n/\Pv i σ H,⟨n,by simp,G5 _,h0⟩,?_⟩
 rintro i m σ H ⟨rfl,hi,p⟩
 by_cases hlt:i<n
 ·refine .inr ⟨hlt,Pv (i+1),fun σ' H' p'=>⟨n-(i+1),by omega,rfl,hlt,p'⟩,fun x H' y=>?_⟩
  obtain ⟨e,y⟩:=y;subst e y;exact hs i σ _ hlt p
 ·have e:i=n:=by omega
  subst e;exact .inl ⟨Go _,hd σ H p⟩
def Itv (K:Gh) (a:Gf) (n:Nat):It :=
 ⟨fun i H=>i<n/\∃ (xs:List V) (x:V),SqL K H a xs/\xs[n-1-i]?=some x,fun i H x H'=>H'=H/\∀ xs,SqL K H a xs->xs[n-1-i]?=some x,fun i _=>n<=i⟩
theorem BO {P:Hk} {w:Hy} {K:Gh} {tg:HM} (a it:Gf) (n:Nat):tR P w K tg (Itv K a n) [it] it (fun i h=>i<=n/\h.IsRevIter it a ((n:Int)-1-(i:Nat))) where
 mem:=by simp
 obj:=fun i h st b hb=>by
  have e:b=it:=by simpa using hb
  subst e;obtain ⟨_,o,e,c,d⟩:=st;exact ⟨o,e,fun v z=>by rw [d] at z;cases z⟩
 keep:=fun i h h' st k=>⟨st.1,st.2.at fun o e=>k it (by simp) o e⟩
 item:=by
  intro X hP hw hK hc i pins s σ H E I hf st hg;subst hP hw hK;obtain ⟨hin,xs,x,hq,hx⟩:=hg;obtain ⟨its,rv,p,hz⟩:=I.list hq;obtain ⟨u,hu,ru⟩:=rv.get hx;obtain ⟨f0,f1,f2,f3,f4,f5⟩:=hf it (by simp);obtain ⟨_,hit⟩:=st;have e1:(n:Int)-1-((i:Nat):Int)=((n-1-i:Nat):Int):=by omega
  rw [e1] at hit;refine wpAny_pyNext_rev_item hit p.isList (x:=u) (by simpa using hu) fun h' st' sb=>?_
  have e2:((n-1-i:Nat):Int)-1=(n:Int)-1-((i+1:Nat):Int):=by omega
  rw [e2] at st';have I1:Inv X pins σ H { s with heap:=h' }:=I.turned (t':=s.toks) (fun b o hb e=>(sb.2 b hb).trans e) f0 f1 f3 f4 f5
  obtain ⟨o,e,c,d⟩:=id st';exact ⟨u,rfl,sP (s:={ s with heap:=h' }) e c d (by decide) ⟨x,H,I1,ru,⟨rfl,fun ys hy=>by rw [I.list_inj hy hq];exact hx⟩,⟨hin,st'⟩,fun b hb=>(hf b hb).1⟩⟩
 done:=by
  intro X hP hw hK hc i pins s σ H E I hf st hg;subst hP hw hK;obtain ⟨f0,f1,f2,f3,f4,f5⟩:=hf it (by simp);obtain ⟨hin,hit⟩:=st;have hge:n<=i:=hg;have e1:(n:Int)-1-((i:Nat):Int) = -1:=by omega
  rw [e1] at hit;exact wpAny_pyNext_rev_end (I.ok.hd hc) hit fun h' eb=>⟨rfl,I.turned (t':=s.toks) (fun b o hb e=>eb b o hb e) f0 f1 f3 f4 f5⟩
 self:=fun A i s Q E st h=>wpAny_pyIter_revIter st.2 h
def iRev (K:Gh) (ta:TA):TI:=fun σ H R=>ta σ H fun vs H1=>∃ (a:Gf) (xs:List V),vs=[.ref a]/\SqL K H1 a xs/\R (Itv K a xs.length) H1
section
variable {X:Cx} {tg:HM}
theorem mH {e:HM} {ta:TA} {p pos:Kv} (hg:Gl X "reversed") (hm:X.mg "reversed"=none) (ha:PA X [e] ta) (hs:starEach [e] X.env=[(false,eval e X.env)]:=by rfl):PI X tg (.Call (.Name "reversed" p) [e] [] pos) (iRev X.K ta):=by
 intro pins s σ H R I h;refine Call_ (oK I hg hm tu (IV (thn (ha pos pins s σ H _ I h) fun us s1 ⟨vs,H1,I1,r1,q1⟩=>?_) hs rfl))
 obtain ⟨a,xs,e,hq,q⟩:=q1;subst e;cases r1 with
 | cons r rr =>
  cases rr;cases r;obtain ⟨its,rv,p',hz⟩:=I1.list hq;have hl:=rv.length;have e1:((its.toArray.size:Nat):Int)-1=(xs.length:Int)-1-((0:Nat):Int):=by simp only [G0];omega
  refine call_reversed_list p'.isList (wpAny_pyIter_revIter (l:=a) (i:=((its.toArray.size:Nat):Int)-1) ⟨_,Hi _ rfl,rfl,rfl⟩ ?_);refine vE (tk:=s1.toks) I1 _ (BO a _ xs.length) ⟨G5 _,?_⟩ q;rw [← e1];exact ⟨_,Hi _ rfl,rfl,rfl⟩
end
section
variable {prog:Hk} {w:Hy} {A:HB} {E:Gg->Gp->Prop} {s:Gp}
theorem uK {d:Gf} {o:Io} {es:Array IZ} {ep:Nat} {Q:Gg->Gp->Prop} (hd:(d == sysModules)=false) (ho:s.heap.get? d=some o) (hc:o.ExactDict) (hdat:o.data = .dict es ep)
  (hQ:Q (.ref s.heap.objs.size) { s with heap:=s.heap.push { cls := .type "dict_keyiterator",data := .fields #[.ref d,.int 0 0,.int es.size 0,.int ep 0] } }) :
  wpAny (model prog w) A (pyIter (.ref d)) Q E s:=by
 have hT:s.TypeIs (.ref d) "dict":=⟨o,ho,hc.1⟩;refine wpAny_pyIter_slot hT F.slot_dict_iter (KA F.slot_dict_iter hT F.entry_dict_iter ?_ (F.args_dict_iter_1 _));unfold Ht.«dict.__iter__»;refine Gm ?_;unfold Ht.Dict.dictSlotNone;refine Gm (wpAny_notOrdered_dict hT ?_);show wpAny _ _ (pure (Hq d)) _ _ s;refine GY ?_;show wpAny _ _ (Mf d >>= _) _ _ s;unfold Mf;rw [F9 (by rw [hd];exact GI)];refine Gm (GY ?_);refine Gm (wpAny_dictEntries ho hdat ?_);refine Gm (wpAny_dictEpoch ho hdat ?_);refine Gm (JP (GY ⟨_,rfl,"dict_keyiterator",_,⟨_,Hi _ rfl,rfl⟩,IH.lookup,?_⟩));simpa [rawInt] using hQ
theorem tN {it d:Gf} {i n ep:Nat} {od:Io} {es:Array IZ} {en:IZ} {Q:Option Gg->Gp->Prop} (hit:s.heap.IsKeyIter it d i n ep) (hod:s.heap.get? d=some od) (hdd:od.data = .dict es ep)
  (hsz:es.size=n) (hx:es[i]?=some en) (hQ:∀ h',h'.IsKeyIter it d (i+1) n ep->J8 it s.heap h'->Q (some en.key) { s with heap:=h' }):wpAny (model prog w) A (pyNext (.ref it)) Q E s:=by
 obtain ⟨o,ho,hc,hd⟩:=id hit;unfold pyNext;refine Gm (wpAny_attempt (wpAny_callSpecial?_slot (name:=KM "__next__") hit.typeIs IH
  (KA IH hit.typeIs F.entry_dict_keyiterator_next ?_ (F.args_dict_keyiterator_next_1 _))))
 refine Gm (GY ?_);refine Gm ?_;refine Gm ?_;first | refine Gm (JD hit.typeIs (GY ?_)) | refine Gm (J6 hit.typeIs (GY ?_))
 refine Gm (wpAny_fieldsOf ho hd ?_);have hown:Lf "dict_keyiterator"=false:=by decide
 simp only [hown,Jx,if_false];show wpAny _ _ (if (Hq d == Iy)=true then _ else _) _ _ s
 rw [F9 (show ¬ ((Hq d == Iy)=true) from GI)];refine Gm (GY ?_);refine Gm (wpAny_dictEntries hod hdd ?_);rw [F9 (by rw [hsz];simp)];refine Gm (GY ?_);refine Gm (wpAny_dictEpoch hod hdd ?_);rw [F9 (by simp)];refine GY ?_;obtain ⟨hlt',hen⟩:=JM.mp hx;simp only [show ¬ ((i:Int)<0) from by omega,if_false,HE,Array.getElem?_eq_getElem hlt'];refine Gm ?_;first | refine Gm (JD hit.typeIs (GY ?_)) | refine Gm (J6 hit.typeIs (GY ?_))
 refine Gm (wpAny_isOneOf_keyiter hit.typeIs ?_);show wpAny _ _ (setField (.ref it) 1 (rawInt ((i:Int)+1)) >>= _) _ _ s;refine Gm (LO ho hd (by simp) ?_)
 have hit':(s.heap.update it (LN (·.setIfInBounds 1 (rawInt ((i:Int)+1))))).IsKeyIter it d (i+1) n ep :=
  ⟨_,IF _ ho (Ki (IS hd _)),(L1 ..).trans hc,by rw [IS hd];simp [rawInt]⟩
 refine Gm (Jr ?_);refine Gm (wpAny_isOneOf_keyiter (s:={ s with heap:=s.heap.update it (LN (·.setIfInBounds 1 (rawInt ((i:Int)+1)))) }) hit'.typeIs ?_)
 show wpAny _ _ (pure es[i].key) _ _ _;rw [hen];exact GY (GY ⟨_,rfl,GY (hQ _ hit' (J8.update ..))⟩)
theorem pE {it d:Gf} {i n ep:Nat} {od:Io} {es:Array IZ} {Q:Option Gg->Gp->Prop} (hh:A.handled=none) (hit:s.heap.IsKeyIter it d i n ep) (hod:s.heap.get? d=some od) (hdd:od.data = .dict es ep)
  (hsz:es.size=n) (hge:n<=i) (hQ:∀ h',GZ.ExtBut it s.heap h'->Q none { s with heap:=h' }):wpAny (model prog w) A (pyNext (.ref it)) Q E s:=by
 obtain ⟨o,ho,hc,hd⟩:=id hit;unfold pyNext;refine Gm (wpAny_attempt (wpAny_callSpecial?_slot (name:=KM "__next__") hit.typeIs IH
  (KA IH hit.typeIs F.entry_dict_keyiterator_next ?_ (F.args_dict_keyiterator_next_1 _))))
 refine Gm (GY ?_);refine Gm ?_;refine Gm ?_;first | refine Gm (JD hit.typeIs (GY ?_)) | refine Gm (J6 hit.typeIs (GY ?_))
 refine Gm (wpAny_fieldsOf ho hd ?_);have hown:Lf "dict_keyiterator"=false:=by decide
 simp only [hown,Jx,if_false];show wpAny _ _ (if (Hq d == Iy)=true then _ else _) _ _ s
 rw [F9 (show ¬ ((Hq d == Iy)=true) from GI)];refine Gm (GY ?_);refine Gm (wpAny_dictEntries hod hdd ?_);rw [F9 (by rw [hsz];simp)];refine Gm (GY ?_);refine Gm (wpAny_dictEpoch hod hdd ?_);rw [F9 (by simp)];refine GY ?_;have hge':es.size<=i:=by rw [hsz];exact hge
 simp only [show ¬ ((i:Int)<0) from by omega,if_false,HE,Array.getElem?_eq_none hge'];refine Gm ?_;first | refine Gm (JD hit.typeIs (GY ?_)) | refine Gm (J6 hit.typeIs (GY ?_))
 show wpAny _ _ (setField (.ref it) 0 .none >>= _) _ _ s;refine Gm (LO ho hd (by simp) ?_);show wpAny _ _ (newExc (.type "StopIteration") [] >>= _) _ _ _;refine Gm ?_;simp only [newExc,newTuple];refine Gm (JP ?_ (by size_fits));refine Gm (m:=firstArgMember _ _) (wpAny_of_eq (a:=Iy) (by first | rfl | (simp only [firstArgMember];rfl)) ?_)
 refine JP ?_ (by size_fits);simp only [raiseNew];refine Gm (wpAny_handled ?_);rw [show A.in1.handled=none from hh];refine Gm (GY (wpAny_throw ?_));refine Gm (wpAny_isInstance (T := "StopIteration") (b:=true) ⟨_,Hi _ rfl,rfl⟩ isSubtype_stop ?_);exact GY (hQ _ (((J8.update ..).extBut.push _).push _))
end
theorem kv_get {κ:Type} {kvs:List (κ×V)} {vs:List (κ×Gg)} (h:KV kvs vs):∀ {i:Nat} {k:κ} {v:V},kvs[i]?=some (k,v)->∃ u,vs[i]?=some (k,u)/\fE v u:=by
 unfold KV at h;induction h with
 | nil=>intro i k v e;simp at e
 | @cons a b l₁ l₂ r t ih =>
  intro i k v e;cases i with
  | zero =>
   simp only [K9,Hr.injEq] at e;subst e;refine ⟨b.2,?_,r.2⟩;simp only [K9];exact congrArg some (Prod.ext r.1.symm rfl)
  | succ j =>
   simp only [Iw] at e ⊢;exact ih e
theorem yq {α β:Type} {G:α->β->Prop} {l₁:List α} {l₂:List β} (h:Jg G l₁ l₂):∀ {i:Nat} {a:α},l₁[i]?=some a->∃ b,l₂[i]?=some b/\G a b:=by
 induction h with
 | nil=>intro i a e;simp at e
 | @cons a b l₁ l₂ r t ih =>
  intro i a' e;cases i with
  | zero =>
   simp only [K9,Hr.injEq] at e;subst e;exact ⟨b,rfl,r⟩
  | succ j =>
   simp only [Iw] at e ⊢;exact ih e
theorem CI {k:Key} {u:Gg} (h:mS k u=true):fE (kV k) u:=by
 rcases gl h with ⟨i,t,rfl,rfl⟩ | ⟨x,t,rfl,rfl⟩
 ·exact ⟨t,rfl⟩
 ·exact ⟨t,rfl⟩
section
variable {X:Cx} {pins:List (Gf×Io)} {σ:St} {H:Hp} {s:Gp} {d:Gf} {o:Io}
theorem Inv.frzK {kvs:List (Key×V)} (I:Inv X pins σ H s) (h:H d=some (.frz o (.dK kvs))) :
  (d == sysModules)=false/\s.heap.get? d=some o/\o.ExactDict/\∃ (es:Array IZ) (ep:Nat) (vs:List (Key×Gg)),o.data = .dict es ep/\es.size=kvs.length/\KV kvs vs/\s.heap.DictAt (mixKind X.prog X.w) d vs ep:=by
 obtain ⟨hd,z,hs,vs,kv,o',es,ep,ho,hx,hdt,r⟩:=I.hok d _ h;rw [hd] at ho;cases ho;refine ⟨hs,hd,hx,es,ep,vs,hdt,?_,kv,o,es,hd,hx,hdt,r⟩;have l1:=r.2.1.length;have l2:kvs.length=vs.length:=JS kv;rw [IC] at l1;omega
theorem Inv.frzT {kvs:List (List Key×V)} (I:Inv X pins σ H s) (h:H d=some (.frz o (.dT kvs))) :
  (d == sysModules)=false/\s.heap.get? d=some o/\o.ExactDict/\∃ (es:Array IZ) (ep:Nat),o.data = .dict es ep/\es.size=kvs.length /\
   ∀ (i:Nat) (k:List Key) (v:V),kvs[i]?=some (k,v)->∃ (en:IZ) (q:Gf),es[i]?=some en/\en.key = .ref q/\H q=some (.tup (k.map kV)):=by
 obtain ⟨hd,z,hs,xs,pr,o',es,ep,ho,hx,hdt,he,_⟩:=I.hok d _ h;rw [hd] at ho;cases ho;refine ⟨hs,hd,hx,es,ep,hdt,?_,fun i k v e=>?_⟩
 ·have l1:es.size=xs.length:=size_of_entries he
  have l2:kvs.length=xs.length:=JS pr;omega
 ·obtain ⟨b,hb,e1,e2,_⟩:=yq pr e
  have q:=entry_at he i;rw [hb] at q;exact ⟨_,b.2.1,q,rfl,e2⟩
end
def Itk (d:Gf) (o:Io) (kvs:List (Key×V)):It :=
 ⟨fun i H=>H d=some (.frz o (.dK kvs))/\i<kvs.length,fun i H x H'=>H'=H/\∃ k v,kvs[i]?=some (k,v)/\x=kV k,fun i H=>H d=some (.frz o (.dK kvs))/\kvs.length<=i⟩
def Itkt (d:Gf) (o:Io) (kvs:List (List Key×V)):It :=
 ⟨fun i H=>H d=some (.frz o (.dT kvs))/\i<kvs.length,fun i H x H'=>H'=H/\∃ (k:List Key) (v:V) (q:Gf),kvs[i]?=some (k,v)/\x = .ref q/\H q=some (.tup (k.map kV)),fun i H=>H d=some (.frz o (.dT kvs))/\kvs.length<=i⟩
theorem rC {o:Io} {es es':Array IZ} {ep ep':Nat} (h:o.data = .dict es ep) (h':o.data = .dict es' ep'):es'=es/\ep'=ep:=by
 rw [h] at h';cases h';exact ⟨rfl,rfl⟩
section
variable {P:Hk} {w:Hy} {K:Gh} {tg:HM} {d:Gf} {o:Io} {es:Array IZ} {ep:Nat}
theorem AI {kvs:List (Key×V)} (it:Gf) (hod:o.data = .dict es ep):tR P w K tg (Itk d o kvs) [it] it (fun i h=>h.IsKeyIter it d i kvs.length ep) where
 mem:=by simp
 obj:=fun i h st b hb=>by
  have e:b=it:=by simpa using hb
  subst e;obtain ⟨oi,e,c,dd⟩:=st;exact ⟨oi,e,fun v z=>by rw [dd] at z;cases z⟩
 keep:=fun i h h' st k=>st.at fun oi e=>k it (by simp) oi e
 item:=by
  intro X hP hw hK hc i pins s σ H E I hf st hg;subst hP hw hK;obtain ⟨hd,hi⟩:=hg;obtain ⟨f0,f1,f2,f3,f4,f5⟩:=hf it (by simp);obtain ⟨hs,hgd,hx,es',ep',vs,hdt,hsz,kv,hm⟩:=I.frzK hd;obtain ⟨rfl,rfl⟩:=rC hod hdt;obtain ⟨⟨k,v⟩,hkv⟩:∃ p,kvs[i]?=some p:=⟨kvs[i],Gk hi⟩;obtain ⟨u,hu,ru⟩:=kv_get kv hkv;have hl:kvs.length=vs.length:=JS kv;rw [hl] at st;refine wpAny_pyNext_dict_item st hm hu fun key h' hkey st' sb=>?_
  have I1:Inv X pins σ H { s with heap:=h' }:=I.turned (t':=s.toks) (fun b ob hb e=>(sb.2 b hb).trans e) f0 f1 f3 f4 f5
  obtain ⟨oi,e,c,dd⟩:=id st';refine ⟨key,rfl,sP (s:={ s with heap:=h' }) e c dd (by decide) ⟨kV k,H,I1,CI (show mS k key=true from hkey),⟨rfl,k,v,hkv,rfl⟩,?_,fun b hb=>(hf b hb).1⟩⟩
  show h'.IsKeyIter it d (i+1) kvs.length _;rw [hl];exact st'
 done:=by
  intro X hP hw hK hc i pins s σ H E I hf st hg;subst hP hw hK;obtain ⟨hd,hi⟩:=hg;obtain ⟨f0,f1,f2,f3,f4,f5⟩:=hf it (by simp);obtain ⟨hs,hgd,hx,es',ep',vs,hdt,hsz,kv,hm⟩:=I.frzK hd;obtain ⟨rfl,rfl⟩:=rC hod hdt;exact pE (I.ok.hd hc) st hgd hdt hsz hi fun h' eb=>⟨rfl,I.turned (t':=s.toks) (fun b ob hb e=>eb b ob hb e) f0 f1 f3 f4 f5⟩
 self:=fun A i s Q E st h=>wpAny_pyIter_keyiter st h
theorem xZ {kvs:List (List Key×V)} (it:Gf) (hod:o.data = .dict es ep):tR P w K tg (Itkt d o kvs) [it] it (fun i h=>h.IsKeyIter it d i kvs.length ep) where
 mem:=by simp
 obj:=fun i h st b hb=>by
  have e:b=it:=by simpa using hb
  subst e;obtain ⟨oi,e,c,dd⟩:=st;exact ⟨oi,e,fun v z=>by rw [dd] at z;cases z⟩
 keep:=fun i h h' st k=>st.at fun oi e=>k it (by simp) oi e
 item:=by
  intro X hP hw hK hc i pins s σ H E I hf st hg;subst hP hw hK;obtain ⟨hd,hi⟩:=hg;obtain ⟨f0,f1,f2,f3,f4,f5⟩:=hf it (by simp);obtain ⟨hs,hgd,hx,es',ep',hdt,hsz,ent⟩:=I.frzT hd;obtain ⟨rfl,rfl⟩:=rC hod hdt;obtain ⟨⟨k,v⟩,hkv⟩:∃ p,kvs[i]?=some p:=⟨kvs[i],Gk hi⟩;obtain ⟨en,q,hen,hkey,hq⟩:=ent i k v hkv;refine tN st hgd hdt hsz hen fun h' st' sb=>?_
  have I1:Inv X pins σ H { s with heap:=h' }:=I.turned (t':=s.toks) (fun b ob hb e=>(sb.2 b hb).trans e) f0 f1 f3 f4 f5
  obtain ⟨oi,e,c,dd⟩:=id st';exact ⟨en.key,rfl,sP (s:={ s with heap:=h' }) e c dd (by decide) ⟨.ref q,H,I1,hkey,⟨rfl,k,v,q,hkv,rfl,hq⟩,st',fun b hb=>(hf b hb).1⟩⟩
 done:=by
  intro X hP hw hK hc i pins s σ H E I hf st hg;subst hP hw hK;obtain ⟨hd,hi⟩:=hg;obtain ⟨f0,f1,f2,f3,f4,f5⟩:=hf it (by simp);obtain ⟨hs,hgd,hx,es',ep',hdt,hsz,ent⟩:=I.frzT hd;obtain ⟨rfl,rfl⟩:=rC hod hdt;exact pE (I.ok.hd hc) st hgd hdt hsz hi fun h' eb=>⟨rfl,I.turned (t':=s.toks) (fun b ob hb e=>eb b ob hb e) f0 f1 f3 f4 f5⟩
 self:=fun A i s Q E st h=>by
  refine wpAny_pyIter_slot st.typeIs F.slot_dict_keyiterator_iter (KA F.slot_dict_keyiterator_iter st.typeIs F.entry_dict_keyiterator_iter ?_ (F.args_dict_keyiterator_iter_1 _));show wpAny _ _ (ret (.ref it)) _ _ s;exact GY ⟨_,rfl,"dict_keyiterator",_,st.typeIs,IH.lookup,h⟩
end
def iKeys (td:TE):TI:=fun σ H R=>td σ H fun x H1=>∃ d o,x = .ref d/\((∃ kvs,H1 d=some (.frz o (.dK kvs))/\R (Itk d o kvs) H1)∨∃ kvs,H1 d=some (.frz o (.dT kvs))/\R (Itkt d o kvs) H1)
section
variable {X:Cx} {tg e:HM} {td:TE} {apos cpos:Kv}
theorem ES (he:PE X e td):PI X tg e (iKeys td):=by
 intro pins s σ H R I h;refine thn (he pins s σ H _ I h) fun u s1 ⟨x,H1,I1,rx,d,o,ex,q⟩=>?_
 subst ex;obtain rfl:u=Hq d:=rx;rcases q with ⟨kvs,hd,q⟩ | ⟨kvs,hd,q⟩
 ·obtain ⟨hs,hgd,hx,es,ep,vs,hdt,hsz,kv,hm⟩:=I1.frzK hd
  refine uK hs hgd hx hdt (vE (tk:=s1.toks) I1 _ (AI _ hdt) ⟨_,Hi _ rfl,rfl,?_⟩ q);rw [hsz] <;> rfl
 ·obtain ⟨hs,hgd,hx,es,ep,hdt,hsz,ent⟩:=I1.frzT hd
  refine uK hs hgd hx hdt (vE (tk:=s1.toks) I1 _ (xZ _ hdt) ⟨_,Hi _ rfl,rfl,?_⟩ q);rw [hsz] <;> rfl
end
def Ite (K:Gh) (a:Gf):It :=
 ⟨fun i H=>∃ (xs:List V) (x:V),SqL K H a xs/\xs[i]?=some x,fun i H v H'=>∃ T x,v = .ref T/\H T=none/\H'=upd H T (.tup [.int (i:Nat),x])/\∀ xs,SqL K H a xs->xs[i]?=some x,fun i H=>∃ xs:List V,SqL K H a xs/\xs.length<=i⟩
theorem AJ {P:Hk} {w:Hy} {K:Gh} {elts:List HM} {kk:Nat} {tpos:Kv} (a e it:Gf) :
  tR P w K (.Tuple elts kk tpos) (Ite K a) [e,it] e (fun i h=>(∃ old,IsEnum h e it ((i:Nat):Int) old)/\h.IsListIter it a i/\e≠it) where
 mem:=by simp
 obj:=fun i h st b hb=>by
  obtain ⟨⟨old,he⟩,⟨o,ho,hc,hd⟩,_⟩:=st;have e':b=e∨b=it:=by simpa using hb
  rcases e' with z | z
  ·rw [z];exact ⟨_,he,fun v q=>nomatch q⟩
  ·rw [z];exact ⟨o,ho,fun v q=>by rw [hd] at q;cases q⟩
 keep:=fun i h h' st k=>let ⟨⟨old,he⟩,hi,hne⟩:=st;⟨⟨old,k e (by simp) _ he⟩,hi.at fun o q=>k it (by simp) o q,hne⟩
 item:=by
  intro X hP hw hK hc i pins s σ H E I hf st hg;subst hP hw hK;obtain ⟨⟨old,he⟩,hit,hne⟩:=st;obtain ⟨xs,x,hq,hx⟩:=hg;obtain ⟨its,rv,p,hz⟩:=I.list hq;obtain ⟨u,hu,ru⟩:=rv.get hx;have hel:e<s.heap.objs.size:=Ha he;have hil:it<s.heap.objs.size:=by obtain ⟨_,q,_⟩:=hit;exact Ha q
  refine wpAny_pyNext_enum_item he hit p.isList (x:=u) (by simpa using hu) hne fun h' ho hit' hT hsz hk=>?_
  refine ⟨_,rfl,wpAny_letOwnedTupleGo_enum (s:={ s with heap:=h',toks:=s.toks+1 }) ho fun h'' he' sb=>?_⟩
  have hT2:h''.get? s.heap.objs.size=some { cls := .type "tuple",data := .seq #[.int i s.toks,u] }:=(sb.2 _ (KN hel)).trans hT
  have new:f8 X.prog X.w (upd H s.heap.objs.size (.tup [.int (i:Nat),x])) h'' s.heap.objs.size (.tup [.int (i:Nat),x]) :=
   ⟨by show 2<=sizeLine;decide,[.int i s.toks,u],.cons ⟨_,rfl⟩ (.cons ru .nil),⟨_,hT2,rfl,_,rfl⟩⟩
  have I1:Inv X pins σ (upd H s.heap.objs.size (.tup [.int (i:Nat),x])) { s with heap:=h'',toks:=s.toks+1 } :=
   I.turnedNew (ch:=[e,it]) (fun b ob hb q=>(sb.2 b (fun z=>hb (by simp [z]))).trans (hk b ob (fun z=>hb (by simp [z])) (fun z=>hb (by simp [z])) q)) hf (Go _) new
  refine ⟨.ref s.heap.objs.size,_,I1,rfl,⟨_,x,rfl,I.hok.fresh (Go _),rfl,fun ys hy=>by rw [I.list_inj hy hq];exact hx⟩,⟨⟨u,?_⟩,hit'.at fun o q=>(sb.2 it (HA hne)).trans q,hne⟩,fun b hb=>?_⟩
  ·have e1:((i+1:Nat):Int)=(i:Int)+1:=by omega
   rw [e1];exact he'
  ·have hb':b<s.heap.objs.size:=by
    have e':b=e∨b=it:=by simpa using hb
    rcases e' with z | z
    ·rw [z];exact hel
    ·rw [z];exact hil
   rw [eK (Hu hb')];exact (hf b hb).1
 done:=by
  intro X hP hw hK hc i pins s σ H E I hf st hg;subst hP hw hK;obtain ⟨⟨old,he⟩,hit,hne⟩:=st;obtain ⟨xs,hq,hx⟩:=hg;obtain ⟨its,rv,p,hz⟩:=I.list hq;obtain ⟨f0,f1,f2,f3,f4,f5⟩:=hf it (by simp);have hl:=rv.length;exact wpAny_pyNext_enum_end (I.ok.hd hc) he hit p.isList (by simp;omega) fun h' eb=>⟨rfl,I.turned (t':=s.toks) (fun b o hb q=>eb b o hb q) f0 f1 f3 f4 f5⟩
 self:=fun A i s Q E st h=>let ⟨⟨_,he⟩,_⟩:=st;wpAny_pyIter_enum he h
def iEnum (K:Gh) (ta:TA):TI:=fun σ H R=>ta σ H fun vs H1=>∃ a xs,vs=[.ref a]/\SqL K H1 a xs/\R (Ite K a) H1
theorem ET {X:Cx} {e:HM} {ta:TA} {p pos tpos:Kv} {elts:List HM} {kk:Nat} (hg:Gl X "enumerate") (hm:X.mg "enumerate"=none) (ha:PA X [e] ta) (hs:starEach [e] X.env=[(false,eval e X.env)]:=by rfl) :
  PI X (.Tuple elts kk tpos) (.Call (.Name "enumerate" p) [e] [] pos) (iEnum X.K ta):=by
 intro pins s σ H R I h;refine Call_ (oK I hg hm boot_enumerate (IV (thn (ha pos pins s σ H _ I h) fun us s1 ⟨vs,H1,I1,r1,q1⟩=>?_) hs rfl))
 obtain ⟨a,xs,ex,hq,q⟩:=q1;subst ex;cases r1 with
 | cons r rr =>
  cases rr;cases r;obtain ⟨its,rv,p',hz⟩:=I1.list hq;refine call_enumerate_list p'.isList fun h' he hit hsz hk=>wpAny_pyIter_enum he ?_
  have I2:Inv X pins σ H1 { s1 with heap:=h' }:=I1.kept (t':=s1.toks) hk
  refine ⟨s1.heap.objs.size+1,[s1.heap.objs.size+1,s1.heap.objs.size],_,_,H1,rfl,I2,AJ a (s1.heap.objs.size+1) s1.heap.objs.size,⟨⟨.none,he⟩,hit,Nat.succ_ne_self _⟩,fun b hb=>?_,q⟩
  have e':b=s1.heap.objs.size+1∨b=s1.heap.objs.size:=by simpa using hb
  have hle:s1.heap.objs.size<=b:=by
   rcases e' with z | z
   ·rw [z];exact Nat.le_add_right _ _
   ·rw [z];exact Go _
  exact I1.fpOk hle (I1.hok.fresh hle)
end L2
section
namespace Bits
open PySem PyProof.Rows
theorem nat_and_mul_pow (k:Nat):∀ a b:Nat,a<2 ^ k->a &&& (b*2 ^ k)=0:=by
 induction k with
 | zero =>
  intro a b h;have h0:a=0:=by
   rw [Nat.pow_zero] at h;omega
  subst h0;simp
 | succ k ih =>
  intro a b h;have hm:(b*2 ^ (k+1))=(b*2 ^ k)*2:=by rw [Kc,Nat.mul_assoc]
  have hlt:a / 2<2 ^ k:=by
   rw [Kc] at h;generalize 2 ^ k=m at h ⊢;omega
  have i:=ih (a / 2) b hlt;rw [hm];generalize b*2 ^ k=B at i ⊢;have e:(a &&& (B*2)) / 2=a / 2 &&& (B*2) / 2:=Nat.and_div_two;have e2:(B*2) / 2=B:=by omega
  have o:=@Nat.and_mod_two_eq_one a (B*2);rw [e2,i] at e;omega
theorem natCast_mul_pow (m k:Nat):(m:Int)*2 ^ k=((m*2 ^ k:Nat):Int):=by
 rw [Jp];first
  | exact (Int.natCast_mul _ _).symm
  | simp
theorem bitOr_join {a b:Int} {k:Nat} (h0:0<=a) (h1:a<2 ^ k) (hb:0<=b):JR a (b*2 ^ k)=a+b*2 ^ k:=by
 obtain ⟨n,rfl⟩:=Int.eq_ofNat_of_zero_le h0;obtain ⟨m,rfl⟩:=Int.eq_ofNat_of_zero_le hb;have hn:n<2 ^ k:=by
  rw [Jp] at h1;omega
 have e:Ii (n:Int) ((m*2 ^ k:Nat):Int)=0:=by
  rw [bitAnd_pp (by omega) (by omega),HE,HE,nat_and_mul_pow k n m hn] <;> rfl
 rw [natCast_mul_pow,bitOr_and,e];omega
theorem bitOr_pp {x y:Int} (hx:0<=x) (hy:0<=y):JR x y=((x.toNat ||| y.toNat:Nat):Int):=by
 have e:=nat_or_add_and x.toNat y.toNat;rw [bitOr_and,bitAnd_pp hx hy];omega
end Bits
end
section
namespace TL
open PySem PySem.Builtin PySem.Builtin.Str PySem.StrLaws
end TL
end
namespace L2
open PySem PySem.Spec PyProof.Rows
section
variable {X:Cx} {pins:List (Gf×Io)} {σ:St} {H:Hp} {s:Gp} {Q:VK}
end
section
variable {X:Cx}
end
section
variable {X:Cx} {o e:HM} {to te:TE}
end
end L2
namespace L2
open PySem PySem.Spec PyProof.Rows
section
variable {X:Cx}
end
end L2
namespace Att
open PySem PySem.W PySem.Calls PyProof.Rows
section
variable {prog:Hk} {w:Hy} {A:HB} {E:Gg->Gp->Prop} {s:Gp} {K:Frag}
end
end Att
namespace L2
open PySem PySem.Spec PyProof.Rows
end L2
namespace L2
open PySem PySem.Spec PyProof.Rows
end L2
namespace L2
open PySem PySem.Spec PyProof.Rows
def fB (s:HH) (j:Nat):HH:=match s with
 | .ClassDef _ _ _ body _ _ _ _ _ _ _=>body.getD j (.Pass ⟨0,0,0,0⟩)
 | _ => .Pass ⟨0,0,0,0⟩
def ig (s:HH):Arguments:=match s with
 | .FunctionDef _ a _ _ _ _ _ _ _ _=>a
 | _=>{ posonlyargs:=[],args:=[],vararg:=none,kwonlyargs:=[],kw_defaults:=[],kwarg:=none,defaults:=[] }
def gS (s:HH):List HH:=match s with
 | .FunctionDef _ _ b _ _ _ _ _ _ _=>b
 | _=>[]
def defScope (s:HH):JL:=match s with
 | .FunctionDef _ _ _ _ _ _ sc _ _ _=>sc
 | _=>{ kind := .function,names:=[],isGenerator:=false,isCoroutine:=false }
abbrev E0:XK:=fun _ _ _=>False
structure Fun (K:Gh) (x qual:G9) (st:HH) (f:Gf) (fd:GG):Prop where
 ex:∃ (oc:Gg) (od:Option Gf) (kV doc pm:Gg) (an:Option Gf) (cdv ct:Gg) (osl:Array (Option Gg)),
  fd=IA x qual (ig st) (gS st) (defScope st) .none kV doc pm an cdv ct/\K.lookup f=some ⟨oc,od,.func fd,osl⟩/\J3 K cdv qual=true
 kp:HL K (.ref f)=true
section
variable {P:Hk} {w:Hy} {K:Gh} {mg:G9->Option Gg} {base:GZ}
theorem Fun.binds {x qual:G9} {st:HH} {f:Gf} {fd:GG} {ps:List G9} (F:Fun K x qual st f fd)
  (h:∀ (kV doc pm:Gg) (an:Option Gf) (cdv ct:Gg) (us:List Gg),us.length=ps.length->bindArgs (IA x qual (ig st) (gS st) (defScope st) .none kV doc pm an cdv ct) ⟨us,[]⟩=pure (ps.zip us)):jh K fd ps []:=by
 obtain ⟨oc,od,kV,doc,pm,an,cdv,ct,osl,rfl,lk,hcd⟩:=F.ex;exact .all (h kV doc pm an cdv ct)
theorem yK {x qual:G9} {st:HH} {f:Gf} {oc:Gg} {od an:Option Gf} {osl:Array (Option Gg)} {kV doc pm cdv ct:Gg} (l:K.lookup f=some ⟨oc,od,.func (IA x qual (ig st) (gS st) (defScope st) .none kV doc pm an cdv ct),osl⟩)
  (c:J3 K cdv qual=true) (k:HL K (.ref f)=true):Fun K x qual st f (IA x qual (ig st) (gS st) (defScope st) .none kV doc pm an cdv ct):=⟨⟨oc,od,kV,doc,pm,an,cdv,ct,osl,rfl,l,c⟩,k⟩
end
theorem uM {A:HB} {k:Nat} (hr:fi k A):A.units+1<cLine:=KR (KJ (by decide:1<=64) _) hr.units
section
variable {X:Cx}
theorem pv (i:Nat) {x:G9} {pos:Kv} (hN:X.N[i]?=some x:=by rfl) (hv:Vis X.env.scope x:=by first | exact Gy rfl | exact Or.inr (Gy rfl) | exact Or.inr (Or.inr rfl)) (hd:(x == ("__debug__":G9))=false:=by decide)
  (hcd:(x == ("__classdict__":G9))=false:=by decide):PE X (.Name x pos) (tVar i):=pe_var hN hv hd hcd
end
theorem gh {c A B:Prop} [Decidable c] (h1:c->A) (h2:¬ c->B):if c then A else B:=by
 by_cases h:c
 ·rw [Ga h]
  exact h1 h
 ·rw [F9 h]
  exact h2 h
def eT (H H':Hp):Prop:=∀ b o,H b=some o->H' b=some o
theorem eT.refl (H:Hp):eT H H:=fun _ _ h=>h
theorem eT.trans {H H1 H2:Hp} (a:eT H H1) (b:eT H1 H2):eT H H2:=fun c o h=>b c o (a c o h)
theorem eT.free {H H':Hp} (e:eT H H') {l:Gf} (h:H' l=Option.none):H l=Option.none:=by
 cases q:H l with
 | none=>rfl
 | some o =>
  rw [e l o q] at h;cases h
theorem eT.seq {K:Gh} {H H':Hp} {a:Gf} {xs:List V} (e:eT H H') (h:SqL K H a xs):SqL K H' a xs:=by
 rcases h with (h | ⟨o,h⟩) | h
 ·exact .inl (.inl (e _ _ h))
 ·exact .inl (.inr ⟨o,e _ _ h⟩)
 ·exact .inr h
section
variable {κ:Type} [DecidableEq κ]
theorem BM {kvs:List (κ×V)} {k:κ} (h:valV kvs k=none):¬ k∈kvs.map (·.1):=by
 intro m;obtain ⟨p,hp,e⟩:=IM.mp m;have q:(kvs.any fun kv=>decide (kv.1=k))=true:=List.any_eq_true.mpr ⟨p,hp,Gb e⟩
 rw [jw,h] at q;exact absurd q (by simp)
theorem Er {kvs:List (κ×V)} {k:κ} {v:V} (h:valV kvs k=some v):k∈kvs.map (·.1):=by
 have q:(kvs.any fun kv=>decide (kv.1=k))=true:=by
  rw [jw,h];all_goals rfl
 obtain ⟨p,hp,e⟩:=List.any_eq_true.mp q;exact IM.mpr ⟨p,hp,Gd e⟩
end
theorem at_of {xs:List V} {z:Int} {j:Nat} {v:V} (e:z=(j:Int)) (h:xs[j]?=some v):atI xs z=some v:=by
 rw [e];exact gE h
end L2
section
namespace L2
open PySem PySem.Spec PyProof.Rows
open PySem.W (WData Codec OpenSpec Well WellAll ReadsW ReadsAllW)
mutual
inductive Dw (K:Gh) (H:Hp):V->Jm->Prop
 | non:Dw K H .non .none
 | bl (b:Bool):Dw K H (.bl b) (.bool b)
 | int (i:Int):Dw K H (.int i) (.int i)
 | str (x:G9):Dw K H (.str x) (.str x)
 | byt (b:Array UInt8):Dw K H (.byt b) (.bytes b.toList)
 | lst {a:Gf} {xs:List V} {ds:List Jm}:SqL K H a xs->lH K H xs ds->Dw K H (.ref a) (.list ds)
 | tup {a:Gf} {xs:List V} {ds:List Jm}:SqT K H a xs->lH K H xs ds->Dw K H (.ref a) (.tuple ds)
inductive lH (K:Gh) (H:Hp):List V->List Jm->Prop
 | nil:lH K H [] []
 | cons {v:V} {vs:List V} {d:Jm} {ds:List Jm}:Dw K H v d->lH K H vs ds->lH K H (v::vs) (d::ds)
end
theorem Aw {K:Gh} {H:Hp}:∀ ns:List Int,lH K H (ns.map V.int) (ns.map Jm.int)
 | [] => .nil
 | n::r => .cons (.int n) (Aw r)
theorem An {K:Gh} {H:Hp}:∀ (ns:List Int) (xs:List V),lH K H xs (ns.map Jm.int)->xs=ns.map V.int
 | [],xs,h=>by
  cases h;rfl
 | n::r,xs,h=>by
  cases h with
  | cons h1 h2 =>
   cases h1;rw [An r _ h2] <;> rfl
section
variable {P:Hk} {w:Hy} {K:Gh} {H:Hp} {h:GZ} {R:PySem.W.WRecords} {cl:G9->Option Gf}
theorem sqL_at {a:Gf} {xs:List V} (hok:HOk P w H h) (KX:K.In h) (q:SqL K H a xs):∃ (its:List Gg) (o:Io) (n:Nat),fu xs its/\h.get? a=some o/\o.cls = .type "list" /\ o.data = .seq its.toArray n:=by
 rcases q with q | ⟨o,its,n,e,hc,_,hd,_,hv⟩
 ·obtain ⟨_,its,n,hv,e⟩:=(show f8 P w H h a (.lst xs) from q.ok hok)
  exact ⟨its,_,n,hv,e,rfl,rfl⟩
 ·exact ⟨its.toList,o,n,hv,KX _ _ e,hc,by simp [hd]⟩
theorem sqT_at {a:Gf} {xs:List V} (hok:HOk P w H h) (KX:K.In h) (q:SqT K H a xs):∃ (its:List Gg) (o:Io) (n:Nat),fu xs its/\h.get? a=some o/\o.cls = .type "tuple" /\ o.data = .seq its.toArray n:=by
 rcases q with q | ⟨o,its,n,e,hc,hd,_,hv⟩
 ·obtain ⟨_,its,hv,o,e,hc,n,hd⟩:=(show f8 P w H h a (.tup xs) from q.ok hok)
  exact ⟨its,o,n,hv,e,hc,hd⟩
 ·exact ⟨its.toList,o,n,hv,KX _ _ e,hc,by simp [hd]⟩
mutual
theorem Dw.reads (hok:HOk P w H h) (KX:K.In h):∀ (d:Jm) (v:V) (u:Gg),Dw K H v d->fE v u->∃ as,L9 R cl h u d as
 | .none,_,_,x,r=>by
  cases x;cases r;exact ⟨_,L9.none⟩
 | .bool b,_,_,x,r=>by
  cases x;cases r;exact ⟨_,L9.bool b⟩
 | .int i,_,_,x,r=>by
  cases x;obtain ⟨t,rfl⟩:=r;exact ⟨_,L9.int i t⟩
 | .str s,_,_,x,r=>by
  cases x;obtain ⟨t,rfl⟩:=r;exact ⟨_,L9.str s t⟩
 | .bytes b,_,_,x,r=>by
  cases x;obtain ⟨t,rfl⟩:=r;exact ⟨_,L9.bytes _ t⟩
 | .list ds,_,_,x,r=>by
  cases x with
  | lst hs ha =>
   cases r;obtain ⟨its,o,n,rv,ho,hc,hd⟩:=sqL_at hok KX hs;obtain ⟨as,hr⟩:=Dw.readsAll hok KX ds _ its ha rv;exact ⟨_,L9.list ho hc hd hr⟩
 | .tuple ds,_,_,x,r=>by
  cases x with
  | tup hs ha =>
   cases r;obtain ⟨its,o,n,rv,ho,hc,hd⟩:=sqT_at hok KX hs;obtain ⟨as,hr⟩:=Dw.readsAll hok KX ds _ its ha rv;exact ⟨_,L9.tuple ho hc hd hr⟩
 | .float _,_,_,x,_=>by cases x
 | .dict _,_,_,x,_=>by cases x
 | .bytearray _,_,_,x,_=>by cases x
 | .set _,_,_,x,_=>by cases x
 | .frozenset _,_,_,x,_=>by cases x
 | .obj _ _,_,_,x,_=>by cases x
theorem Dw.readsAll (hok:HOk P w H h) (KX:K.In h):∀ (ds:List Jm) (vs:List V) (us:List Gg),lH K H vs ds->fu vs us->∃ as,ReadsAllW R cl h us ds as
 | [],_,_,x,r=>by
  cases x;cases r;exact ⟨_,ReadsAllW.nil⟩
 | d::ds,_,_,x,r=>by
  cases x with
  | cons h1 h2 =>
   cases r with
   | cons r1 r2 =>
    obtain ⟨as,q1⟩:=Dw.reads hok KX d _ _ h1 r1;obtain ⟨bs,q2⟩:=Dw.readsAll hok KX ds _ _ h2 r2;exact ⟨_,ReadsAllW.cons q1 q2⟩
end
end
mutual
def plW:Jm->Bool
 | .none=>true
 | .bool _=>true
 | .int _=>true
 | .str _=>true
 | .bytes _=>true
 | .list xs=>plWs xs
 | .tuple xs=>plWs xs
 | _=>false
def plWs:List Jm->Bool
 | []=>true
 | x::r=>plW x && plWs r
end
theorem w6 {α:Type} {f:α->Jm} (h:∀ a,plW (f a)=true):∀ l:List α,plWs (l.map f)=true
 | []=>rfl
 | x::r=>by
  show (plW (f x) && plWs (r.map f))=true;rw [h x,w6 h r] <;> rfl
theorem mG:∀ (c:Kn) (a:c.denote),plW (c.enc a)=true
 | .unit,_=>rfl
 | .bool,_=>rfl
 | .int _ _,_=>rfl
 | .nat _ _,_=>rfl
 | .u8,_=>rfl
 | .bytes _ _,_=>rfl
 | .text _ _ _ _,_=>rfl
 | .list _ _ c,a=>w6 (fun x=>mG c x) a
 | .pair c d,a=>by
  show (plW (c.enc a.1) && (plW (d.enc a.2) && true))=true;rw [mG c a.1,mG d a.2] <;> rfl
 | .triple c d e,a=>by
  show (plW (c.enc a.1) && (plW (d.enc a.2.1) && (plW (e.enc a.2.2) && true)))=true;rw [mG c a.1,mG d a.2.1,mG e a.2.2] <;> rfl
 | .option c,none=>rfl
 | .option c,some x=>mG c x
theorem uB:∀ (cs:List Kn) (a:Le cs),plWs (KF cs a)=true
 | [],_=>rfl
 | c::cs,a=>by
  show (plW (c.enc a.1) && plWs (KF cs a.2))=true;rw [mG c a.1,uB cs a.2] <;> rfl
theorem ox:∀ {xs:List Jm} {d:Jm},d∈xs->d.weight<=Jm.weightAll xs
 | [],d,h=>absurd h (by simp)
 | x::r,d,h=>by
  show d.weight<=x.weight+1+Jm.weightAll r;rcases Gu.mp h with e | m
  ·rw [e]
   omega
  ·have z:=ox m
   omega
def toV:Gg->V
 | .none => .non
 | .bool b => .bl b
 | .int i _ => .int i
 | .str x _ => .str x
 | .bytes b _ => .byt b
 | .ref a => .ref a
 | _ => .non
def OkU (A:List Gf):Gg->Prop
 | .none=>True
 | .bool _=>True
 | .int _ _=>True
 | .str _ _=>True
 | .bytes _ _=>True
 | .ref a=>a∈A
 | _=>False
theorem OkU.mono {A B:List Gf} (h:∀ a∈A,a∈B):∀ {u:Gg},OkU A u->OkU B u:=fun {u} x=>by
 cases u with
 | ref a=>exact h a x
 | none=>trivial
 | bool b=>trivial
 | int i t=>trivial
 | str s t=>trivial
 | bytes b t=>trivial
 | _=>exact HW x
theorem CG {A:List Gf} {u:Gg} (x:OkU A u):fE (toV u) u:=by
 cases u with
 | ref a=>rfl
 | none=>rfl
 | bool b=>rfl
 | int i t=>exact ⟨t,rfl⟩
 | str s t=>exact ⟨t,rfl⟩
 | bytes b t=>exact ⟨t,rfl⟩
 | _=>exact HW x
theorem lm {A:List Gf}:∀ {vs:List Gg},(∀ u∈vs,OkU A u)->fu (vs.map toV) vs
 | [],_ => .nil
 | u::r,h => .cons (CG (h u (Hf ..))) (lm fun x hx=>h x (G3 _ hx))
def mq (h:GZ) (A:List Gf) (a:Gf):Prop:=∃ vs:List Gg,vs.length<=sizeLine/\(∀ u∈vs,OkU A u) /\
 (h.get? a=some { cls := .type "list",data := .seq vs.toArray }∨h.get? a=some { cls := .type "tuple",data := .seq vs.toArray })
theorem mq.mono {h:GZ} {A B:List Gf} {a:Gf} (k:∀ a∈A,a∈B) (x:mq h A a):mq h B a:=by
 obtain ⟨vs,h1,h2,h3⟩:=x;exact ⟨vs,h1,fun u hu=>(h2 u hu).mono k,h3⟩
theorem kF {P:Ma} {h:GZ}:∀ {vs:List Gg} {ds:List Jm},LS P h vs ds->vs.length=ds.length
 | _,_,.nil=>rfl
 | _,_,.cons _ b=>by
  show _+1=_+1;rw [kF b]
theorem tT {P:Ma} {h:GZ} {v:Gg} {ds:List Jm} (x:Well P h v (.list ds)):∃ (a:Gf) (vs:List Gg),v = .ref a/\h.get? a=some { cls := .type "list",data := .seq vs.toArray }/\LS P h vs ds:=by
 cases x with
 | list ho hall=>exact ⟨_,_,rfl,ho,hall⟩
theorem rP {P:Ma} {h:GZ} {v:Gg} {ds:List Jm} (x:Well P h v (.tuple ds)):∃ (a:Gf) (vs:List Gg),v = .ref a/\h.get? a=some { cls := .type "tuple",data := .seq vs.toArray }/\LS P h vs ds:=by
 cases x with
 | tuple ho hall=>exact ⟨_,_,rfl,ho,hall⟩
theorem tU {P:Ma} {h:GZ} {us:List Gg} {d:Jm} {ds:List Jm} (x:LS P h us (d::ds)):∃ (v:Gg) (vs:List Gg),us=v::vs/\Well P h v d/\LS P h vs ds:=by
 cases x with
 | cons a b=>exact ⟨_,_,rfl,a,b⟩
theorem Ai {n:Nat} (h:n<=1048576):n<=sizeLine:=Ie h (by decide)
section
variable {P:Ma} {h:GZ}
mutual
theorem Ef:∀ (d:Jm) (v:Gg),Well P h v d->plW d=true->d.weight<=1048576->∃ A:List Gf,OkU A v/\∀ a∈A,mq h A a
 | .none,_,x,_,_=>by
  cases x;exact ⟨[],trivial,fun a m=>absurd m (by simp)⟩
 | .bool b,_,x,_,_=>by
  cases x;exact ⟨[],trivial,fun a m=>absurd m (by simp)⟩
 | .int i,_,x,_,_=>by
  cases x;exact ⟨[],trivial,fun a m=>absurd m (by simp)⟩
 | .str s,_,x,_,_=>by
  cases x;exact ⟨[],trivial,fun a m=>absurd m (by simp)⟩
 | .bytes b,_,x,_,_=>by
  cases x;exact ⟨[],trivial,fun a m=>absurd m (by simp)⟩
 | .list ds,_,x,p,z=>by
  obtain ⟨a,vs,rfl,ho,hall⟩:=tT x;have z2:Jm.weightAll ds<=1048576:=z;obtain ⟨A,h1,h2⟩:=pY ds _ hall p fun d hd=>Ie (ox hd) z2
  have k:∀ b∈A,b∈a::A:=fun b hb=>G3 _ hb
  refine ⟨a::A,Hf ..,fun b hb=>?_⟩
  rcases Gu.mp hb with e | m
  ·rw [e]
   exact ⟨vs,Ai (by rw [kF hall];exact Ie (PySem.W.length_le_weightAllW ds) z2),fun u hu=>(h1 u hu).mono k,.inl ho⟩
  ·exact (h2 b m).mono k
 | .tuple ds,_,x,p,z=>by
  obtain ⟨a,vs,rfl,ho,hall⟩:=rP x;have z2:Jm.weightAll ds<=1048576:=z;obtain ⟨A,h1,h2⟩:=pY ds _ hall p fun d hd=>Ie (ox hd) z2
  have k:∀ b∈A,b∈a::A:=fun b hb=>G3 _ hb
  refine ⟨a::A,Hf ..,fun b hb=>?_⟩
  rcases Gu.mp hb with e | m
  ·rw [e]
   exact ⟨vs,Ai (by rw [kF hall];exact Ie (PySem.W.length_le_weightAllW ds) z2),fun u hu=>(h1 u hu).mono k,.inr ho⟩
  ·exact (h2 b m).mono k
 | .float _,_,_,p,_=>Bool.noConfusion (show false=true from p)
 | .dict _,_,_,p,_=>Bool.noConfusion (show false=true from p)
 | .bytearray _,_,_,p,_=>Bool.noConfusion (show false=true from p)
 | .set _,_,_,p,_=>Bool.noConfusion (show false=true from p)
 | .frozenset _,_,_,p,_=>Bool.noConfusion (show false=true from p)
 | .obj _ _,_,_,p,_=>Bool.noConfusion (show false=true from p)
theorem pY:∀ (ds:List Jm) (vs:List Gg),LS P h vs ds->plWs ds=true->(∀ d∈ds,d.weight<=1048576)->∃ A:List Gf,(∀ u∈vs,OkU A u)/\∀ a∈A,mq h A a
 | [],_,x,_,_=>by
  cases x;exact ⟨[],fun u m=>absurd m (by simp),fun a m=>absurd m (by simp)⟩
 | d::ds,_,x,p,z=>by
  obtain ⟨v,vs,rfl,x1,x2⟩:=tU x;have q:plW d=true/\plWs ds=true:=Bool.and_eq_true_iff.mp p;obtain ⟨A,a1,a2⟩:=Ef d v x1 q.1 (z d (Hf ..));obtain ⟨B,b1,b2⟩:=pY ds vs x2 q.2 fun e he=>z e (G3 _ he)
  have kA:∀ b∈A,b∈A++B:=fun b hb=>HS.mpr (.inl hb)
  have kB:∀ b∈B,b∈A++B:=fun b hb=>HS.mpr (.inr hb)
  refine ⟨A++B,fun u hu=>?_,fun b hb=>?_⟩
  ·rcases Gu.mp hu with e | m
   ·rw [e]
    exact a1.mono kA
   ·exact (b1 u m).mono kB
  ·rcases HS.mp hb with m | m
   ·exact (a2 b m).mono kA
   ·exact (b2 b m).mono kB
end
end
def Fx (o:Io):Option HO:=match o.data with
 | .seq vs _=>if (o.cls == J0 "list")=true then some (.frz o (.lst (vs.toList.map toV))) else some (.frz o (.tup (vs.toList.map toV)))
 | _=>none
def argH (K:Gh) (h:GZ) (A:List Gf):Hp:=fun b=>if b∈A then (if (K.lookup b).isNone=true then (h.get? b).bind Fx else none) else none
def AD (H:Hp):Prop:=∀ b,H b=none∨∃ o u,H b=some (.frz o u)
theorem xy (vs:List Gg):Fx { cls := .type "list",data := .seq vs.toArray }=some (.frz { cls := .type "list",data := .seq vs.toArray } (.lst (vs.map toV))):=by
 show (if (J0 "list" == J0 "list")=true then some (HO.frz { cls := .type "list",data := .seq vs.toArray } (.lst (vs.toArray.toList.map toV))) else some (HO.frz { cls := .type "list",data := .seq vs.toArray } (.tup (vs.toArray.toList.map toV))))=_
 rw [Ga (beq_self_eq_true _)]
theorem xx (vs:List Gg):Fx { cls := .type "tuple",data := .seq vs.toArray }=some (.frz { cls := .type "tuple",data := .seq vs.toArray } (.tup (vs.map toV))):=by
 show (if (J0 "tuple" == J0 "list")=true then some (HO.frz { cls := .type "tuple",data := .seq vs.toArray } (.lst (vs.toArray.toList.map toV))) else some (HO.frz { cls := .type "tuple",data := .seq vs.toArray } (.tup (vs.toArray.toList.map toV))))=_
 rw [F9 (by decide)]
section
variable {P:Hk} {w:Hy} {K:Gh} {h:GZ} {A:List Gf}
theorem rG {b:Gf} {o:Io} (hb:b∈A) (hk:K.lookup b=none) (e:h.get? b=some o):argH K h A b=Fx o:=by
 unfold argH;rw [Ga hb,hk,Ga (show (none:Option Io).isNone=true from rfl),e] <;> rfl
theorem Fq {b:Gf} {u:HO} (q:argH K h A b=some u):b∈A/\K.lookup b=none:=by
 unfold argH at q;by_cases hb:b∈A
 ·rw [Ga hb] at q
  cases hk:K.lookup b with
  | none=>exact ⟨hb,rfl⟩
  | some o =>
   rw [hk,F9 (by simp)] at q;cases q
 ·rw [F9 hb] at q
  cases q
theorem rF (ar:∀ a∈A,mq h A a) {b:Gf} {u:HO} (q:argH K h A b=some u):K.lookup b=none/\∃ vs:List Gg,vs.length<=sizeLine/\(∀ u∈vs,OkU A u) /\
  ((h.get? b=some { cls := .type "list",data := .seq vs.toArray }/\u = .frz { cls := .type "list",data := .seq vs.toArray } (.lst (vs.map toV)))∨(h.get? b=some { cls := .type "tuple",data := .seq vs.toArray }/\u = .frz { cls := .type "tuple",data := .seq vs.toArray } (.tup (vs.map toV)))):=by
 obtain ⟨hb,hk⟩:=Fq q;obtain ⟨vs,h1,h2,h3⟩:=ar b hb;refine ⟨hk,vs,h1,h2,?_⟩;rcases h3 with e | e
 ·rw [rG hb hk e,xy] at q
  exact .inl ⟨e,(Hd q).symm⟩
 ·rw [rG hb hk e,xx] at q
  exact .inr ⟨e,(Hd q).symm⟩
theorem BG (ar:∀ a∈A,mq h A a):AD (argH K h A):=fun b=>by
 cases q:argH K h A b with
 | none=>exact .inl rfl
 | some u =>
  obtain ⟨_,vs,_,_,⟨_,e⟩ | ⟨_,e⟩⟩:=rF ar q
  ·exact .inr ⟨_,_,by rw [e]⟩
  ·exact .inr ⟨_,_,by rw [e]⟩
theorem FK (ar:∀ a∈A,mq h A a):HOk P w (argH K h A) h:=fun b u q=>by
 obtain ⟨_,vs,h1,h2,⟨e,rfl⟩ | ⟨e,rfl⟩⟩:=rF ar q
 ·exact ⟨e,by rw [Ge];exact h1,vs,_,lm h2,e⟩
 ·exact ⟨e,by rw [Ge];exact h1,vs,lm h2,_,e,rfl,_,rfl⟩
theorem rb {c c':Gg} {vs us:List Gg} (e:(some { cls:=c,data := .seq vs.toArray }:Option Io)=some { cls:=c',data := .seq us.toArray }):c=c'/\vs=us:=by
 have e1:=Hd e;have e2:c=c':=congrArg Io.cls e1;have e3:Data.seq vs.toArray=Data.seq us.toArray:=congrArg Io.data e1;injection e3 with e4
 refine ⟨e2,?_⟩;have e5:=congrArg Array.toList e4;simpa using e5
theorem argL (KX:K.In h) (ar:∀ a∈A,mq h A a) {a:Gf} {vs:List Gg} (ha:a∈A) (e:h.get? a=some { cls := .type "list",data := .seq vs.toArray }):(∀ u∈vs,OkU A u)/\SqL K (argH K h A) a (vs.map toV):=by
 obtain ⟨us,h1,h2,h3⟩:=ar a ha;have hu:us=vs:=by
  rcases h3 with q | q
  ·rw [e] at q
   exact (rb q).2.symm
  ·rw [e] at q
   exact absurd (J0.inj (rb q).1) (by decide)
 subst hu;refine ⟨h2,?_⟩;cases hk:K.lookup a with
 | none=>exact .inl (.inr ⟨_,by rw [rG ha hk e,xy]⟩)
 | some o =>
  have e2:=KX a o hk;rw [e] at e2;obtain rfl:=Hd e2;exact .inr ⟨_,us.toArray,_,hk,rfl,rfl,rfl,by rw [G0];exact h1,by simpa using lm h2⟩
theorem argT (KX:K.In h) (ar:∀ a∈A,mq h A a) {a:Gf} {vs:List Gg} (ha:a∈A) (e:h.get? a=some { cls := .type "tuple",data := .seq vs.toArray }):(∀ u∈vs,OkU A u)/\SqT K (argH K h A) a (vs.map toV):=by
 obtain ⟨us,h1,h2,h3⟩:=ar a ha;have hu:us=vs:=by
  rcases h3 with q | q
  ·rw [e] at q
   exact absurd (J0.inj (rb q).1) (by decide)
  ·rw [e] at q
   exact (rb q).2.symm
 subst hu;refine ⟨h2,?_⟩;cases hk:K.lookup a with
 | none=>exact .inl (.inr ⟨_,by rw [rG ha hk e,xx]⟩)
 | some o =>
  have e2:=KX a o hk;rw [e] at e2;obtain rfl:=Hd e2;exact .inr ⟨_,us.toArray,_,hk,rfl,rfl,by rw [G0];exact h1,by simpa using lm h2⟩
mutual
theorem dw_one {Pm:Ma} (KX:K.In h) (ar:∀ a∈A,mq h A a):∀ (d:Jm) (v:Gg),Well Pm h v d->plW d=true->OkU A v->Dw K (argH K h A) (toV v) d
 | .none,_,x,_,_=>by
  cases x;exact .non
 | .bool b,_,x,_,_=>by
  cases x;exact .bl b
 | .int i,_,x,_,_=>by
  cases x;exact .int i
 | .str s,_,x,_,_=>by
  cases x;exact .str s
 | .bytes b,_,x,_,_=>by
  cases x;have z:=Dw.byt (K:=K) (H:=argH K h A) b.toArray;exact z
 | .list ds,_,x,p,hu=>by
  obtain ⟨a,vs,rfl,ho,hall⟩:=tT x;obtain ⟨h2,hs⟩:=argL KX ar hu ho;exact .lst hs (vR KX ar ds _ hall p h2)
 | .tuple ds,_,x,p,hu=>by
  obtain ⟨a,vs,rfl,ho,hall⟩:=rP x;obtain ⟨h2,hs⟩:=argT KX ar hu ho;exact .tup hs (vR KX ar ds _ hall p h2)
 | .float _,_,_,p,_=>Bool.noConfusion (show false=true from p)
 | .dict _,_,_,p,_=>Bool.noConfusion (show false=true from p)
 | .bytearray _,_,_,p,_=>Bool.noConfusion (show false=true from p)
 | .set _,_,_,p,_=>Bool.noConfusion (show false=true from p)
 | .frozenset _,_,_,p,_=>Bool.noConfusion (show false=true from p)
 | .obj _ _,_,_,p,_=>Bool.noConfusion (show false=true from p)
theorem vR {Pm:Ma} (KX:K.In h) (ar:∀ a∈A,mq h A a):∀ (ds:List Jm) (vs:List Gg),LS Pm h vs ds->plWs ds=true->(∀ u∈vs,OkU A u)->lH K (argH K h A) (vs.map toV) ds
 | [],_,x,_,_=>by
  cases x;exact .nil
 | d::ds,_,x,p,hu=>by
  obtain ⟨v,vs,rfl,x1,x2⟩:=tU x;have q:plW d=true/\plWs ds=true:=Bool.and_eq_true_iff.mp p;exact .cons (dw_one KX ar d v x1 q.1 (hu _ (Hf ..))) (vR KX ar ds vs x2 q.2 fun u m=>hu u (G3 _ m))
end
end
theorem AN {P:Hk} {w:Hy} {K:Gh} {mg mb:G9->Option Gg} {CX:CXT} {k:Nat} {fa:Gf} {fd:GG} {ps:List G9} {sp:Sp} {s₁:Gp} {vals:List Gg} {ds:List Jm} {R:PySem.W.WRecords} {cl:G9->Option Gf} {d0:Jm}
  (KX:K.In s₁.heap) (hns:s₁.heap.Ns mainGlobals mg) (hb:s₁.heap.Ns builtinsNs mb) (hbb:∀ x:G9,x ≠ "__name__" -> mb x=bootBuiltins x) (hlim:s₁.heap.NoLimit) (hg:s₁.gens=#[])
  (hwl:LS w.params s₁.heap vals ds) (hpl:plWs ds=true) (hwt:∀ d∈ds,d.weight<=1048576) (hr:fi k callerA)
  (F:∀ base:GZ,K.In base->base.Ns mainGlobals mg->ff P w K mg base CX k fa fd ps sp) (hbind:∀ (s:Gp) (us:List Gg),us.length=ps.length->BindsTo s fd ⟨us,[]⟩ (ps.zip us)) (hlen:ds.length=ps.length)
  (hsp:∀ (H:Hp) (xs:List V),AD H->lH K H xs ds->sp xs H (fun v H'=>Dw K H' v d0) fun _ _ _=>False)
  (hCX:∀ H e s',CX [] H s₁ (fun _ _ _=>False) e s'->False) :
  codeAny (model P w) callerA (.call (.ref fa) ⟨vals,[]⟩) (fun r s'=>∃ u as,r = .ok (.ret u)/\L9 R cl s'.heap u d0 as/\OldK s₁.heap s'.heap/\s'.os=s₁.os/\LY s'.gens) s₁:=by
 obtain ⟨A,ho,ar⟩:=pY ds vals hwl hpl hwt;have hO:AD (argH K s₁.heap A):=BG ar;have hok:HOk P w (argH K s₁.heap A) s₁.heap:=FK ar;have hS:=vR KX ar ds vals hwl hpl ho;have hV:=lm ho;have hK:∀ b u,argH K s₁.heap A b=some u->K.lookup b=none:=fun b u q=>(rF ar q).1
 have noA:∀ {b:Gf} {o:Io} {es:Array IZ} {ep:Nat},s₁.heap.get? b=some o->o.data = .dict es ep->argH K s₁.heap A b=none:=fun {b o es ep} e d=>by
  cases q:argH K s₁.heap A b with
  | none=>rfl
  | some u =>
   obtain ⟨_,vs,_,_,⟨e2,_⟩ | ⟨e2,_⟩⟩:=rF ar q
   ·rw [e2] at e
    cases e;have d':Data.seq vs.toArray _=Data.dict es ep:=d;cases d'
   ·rw [e2] at e
    cases e;have d':Data.seq vs.toArray _=Data.dict es ep:=d;cases d'
 generalize argH K s₁.heap A=H at hO hok hS hK noA;have mj:∀ {b:Gf} {o:Io},s₁.heap.get? b=some o->H b=none->(hidT s₁.heap H).get? b=some o:=fun e n=>DQ e n
 have nsK:∀ {b:Gf} {m:G9->Option Gg},s₁.heap.Ns b m->(hidT s₁.heap H).Ns b m:=fun {b m} ⟨o,es,ep,e,d,r⟩=>⟨o,es,ep,mj e (noA e d),d,r⟩
 have nK:∀ b o,K.lookup b=some o->H b=none:=fun b o e=>by
  cases q:H b with
  | none=>rfl
  | some u =>
   rw [hK b u q] at e;cases e
 have hKb:K.In (hidT s₁.heap H):=fun b o e=>mj (KX b o e) (nK b o e)
 have hM:Mod K mg (hidT s₁.heap H):=⟨hKb,nsK hns,⟨mb,nsK hb,hbb⟩,let ⟨mc,h1,h2⟩:=hlim;⟨mc,nsK h1,h2⟩⟩
 have e0:yZ P w K mg (hidT s₁.heap H) callerA [] s₁ H:=⟨rfl,hM,fun b o e=>Fp e,Lk (Bv _ _),trivial,fun b hb=>absurd (show b∈([]:List Gf) from hb) (by simp),hok,.of_eq hg⟩
 have hl:vals.length=ps.length:=by rw [kF hwl];exact hlen
 refine KW ((F _ hKb (nsK hns)).run callerA [] s₁ H ⟨vals,[]⟩ vals (vals.map toV) _ _ hr e0 (hbind s₁ vals hl) hV (hsp H _ hO hS)) fun r s' x=>?_
 cases r with
 | error e=>exact (hCX H e s' x).elim
 | ok fl =>
  cases fl with
  | next=>exact HW x
  | brk=>exact HW x
  | cont=>exact HW x
  | ret u =>
   obtain ⟨v,H',os,bare,un,hok',r',q⟩:=x;have kept:∀ b o,s₁.heap.get? b=some o->s'.heap.get? b=some o:=fun b o e=>by
    cases q2:H b with
    | none=>exact un.keep b o e q2 (by intro z;exact absurd (show b∈([]:List Gf) from z) (by simp)) (by simp)
    | some u2 =>
     rcases hO b with z | ⟨ob,u3,z⟩
     ·rw [q2] at z
      cases z
     ·have z2:=un.frzs b ob _ z
      obtain ⟨e1,_⟩:=hok b _ z;obtain ⟨e2,_⟩:=hok' b _ z2;rw [e] at e1;cases e1;exact e2
   have KX':K.In s'.heap:=fun b o e=>kept b o (KX b o e)
   obtain ⟨as,hrd⟩:=Dw.reads (R:=R) (cl:=cl) hok' KX' d0 v u q r';exact ⟨u,as,rfl,hrd,OldK.of_keep kept,os,bare⟩
theorem sN {ds:List Jm} (h:Jm.layableAll ds=true):∀ d∈ds,d.weight<=1048576:=fun d hd =>
 (PySem.W.layableW_iff.mp (Kj.mp h d hd)).2.2
theorem sV:∀ (cs:List Kn) (a:Le cs),(KF cs a).length=cs.length
 | [],_=>rfl
 | c::cs,a=>by
  show (KF cs a.2).length+1=cs.length+1;rw [sV cs a.2]
theorem AF {r:OpenSpec} {k:Nat} {q:Hk} {loose:List G9} {XP:(G9->Option Gg)->GZ->Prop} {YP:Hy->GZ->Prop} {d:DefRec} {K:Ma->Gh} {CX:Hy->CXT} {ps:List G9} {sp:Hy->Sp}
  (hwell:r.wellSaid=true) (hdf:d.params.defaults=[]) (hlen:r.args.length=ps.length) (hr:fi k callerA)
  (hY:∀ (w:Hy) (h:GZ),YP w h->(K w.params).In h)
  (F:∀ (w:Hy) (mg:G9->Option Gg) (fa:Gf) (h:GZ),YP w h->(K w.params).In h->h.Ns mainGlobals mg->mg d.name=some (.ref fa) ->
   ∃ fd:GG,(∀ (s:Gp) (us:List Gg),us.length=ps.length->BindsTo s fd ⟨us,[]⟩ (ps.zip us)) /\
    ∀ base:GZ,(K w.params).In base->base.Ns mainGlobals mg->ff r.prog w (K w.params) mg base (CX w) k fa fd ps (sp w))
  (hsp:∀ (w:Hy) (H:Hp) (xs:List V) (a:Le r.args),AD H->Kn.withinAll r.args a=true->L6 r.args r.asked a=true->lH (K w.params) H xs (KF r.args a) ->
   sp w xs H (fun v H'=>Dw (K w.params) H' v (r.ret.enc (L6 r.args r.f a))) fun _ _ _=>False)
  (hCX:∀ (w:Hy) (H:Hp) (s:Gp) (e:Gg) (s':Gp),CX w [] H s (fun _ _ _=>False) e s'->False) :
  PySem.W.WalkOS q loose XP YP r d [] (fun f vs=>PySem.call f vs):=by
 intro w s_0 s₁ mg mb G Y fa o pm cd doc dV kV ho hd hcd hD hmg hg args vals as hpre hlay hrd hwl hlo;obtain ⟨a,e1,e2⟩:=PySem.W.os_pre_some hpre;obtain ⟨e3,hwi⟩:=Kn.encAll_of_decAll r.args args a e1;subst e3;have KX:=hY w _ Y;obtain ⟨fd,hb,hF⟩:=F w mg fa _ Y KX G.T.g hmg;refine PySem.W.enter_call (KW (AN (R:=[]) (cl:=classAt s_0.heap) (d0:=r.ret.enc (L6 r.args r.f a)) KX G.T.g G.T.b G.T.builtins G.T.nolimit hg hwl (uB _ _) (sN hlay) hr hF hb (by rw [sV];exact hlen)
  (fun H xs hO hS=>hsp w H xs a hO hwi e2 hS) fun H e s'=>hCX w H s₁ e s') fun r' s' hq=>?_)
 obtain ⟨u,as',rfl,h1,h2,h3,h4⟩:=hq;exact ⟨.inl ⟨u,_,as',rfl,fun _=>rfl,h1,(OpenSpec.post_iff hwell hwi _ _).mpr rfl,fun z=>Bool.noConfusion (show false=true from z)⟩,h2,h3,h4⟩
end L2
end
namespace L2
open PySem PySem.Spec PyProof.Rows Builtin Builtin.ObjectAttr
def trV:Option Gf->Gg
 | some t => .ref t
 | none => .none
structure Fly (h:GZ) (e:Gf) (T:Option Gf) (C dx:Gf) (f:Gg):Prop where
 rc:∃ (oe:Io) (vs:Array Gg),h.get? e=some oe/\oe.cls = .ref C/\oe.dict=some dx/\oe.data = .fields vs/\vs[1]?=some (trV T)
 tr:∀ t,T=some t->t≠e/\∃ (oT:Io) (ts:Array Gg),h.get? t=some oT/\oT.data = .fields ts/\ts[3]?=some f
structure Eh (fs:List Gf) (e:Gf) (T:Option Gf) (h h':GZ):Prop where
 keep:∀ b o,h.get? b=some o->b≠e->T≠some b->b∉fs->h'.get? b=some o
 slot:∀ b o,h.get? b=some o->b≠e->T≠some b->∃ sl,h'.get? b=some { o with slots:=sl }
theorem mV (o:Io) (f:Array Gg->Array Gg):(o.mapFields f).dict=o.dict:=by
 obtain ⟨c,d,dt,sl⟩:=o;cases dt <;> rfl
section
variable {M:Model} {A:HB} {E:Gg->Gp->Prop} {s:Gp} {base:GZ} {env:L5} {outer:List L5} {L e C dx:Gf} {T:Option Gf} {f:Gg}
theorem uP {oe:Io} {vs:Array Gg} {head:Gg} {hadNext:Bool} {Q:Unit->Gp->Prop} (hfr:A.frames=some (env::outer)) (hl:s.heap.FunFrames base (env::outer)) (hf:env.frame=some L)
  (he:s.heap.get? e=some oe) (hd:oe.data = .fields vs) (hz:1<vs.size)
  (h:∀ h' t',s.heap.get? t'=none->t'≠e->h'.get? e=some (oe.mapFields (·.setIfInBounds 1 (.ref t')))->(∃ (oT:Io) (ts:Array Gg),h'.get? t'=some oT/\oT.data = .fields ts/\ts[3]?=some (rawInt L)) ->
   Eh (frs (env::outer)) e none s.heap h'->Q () { s with heap:=h' }) :
  wpAny M A (do let a ← frameOf env;let pl ← entryPlaceOf L hadNext;let b ← EntryCells.newEntry head a .none (rawInt L) .none pl;setField (.ref e) 1 b) Q E s:=by
 have nfr:e∉frs (env::outer):=fun hm=>by
  obtain ⟨_,o,ho,nf⟩:=hl.mem hm;rw [he] at ho;cases ho;exact nf vs hd
 refine Gm (wpAny_frameOf_fun hfr hl hf fun h1 so=>?_)
 refine Gm (wpAny_entryPlaceOf fun pl hpl=>?_)
 unfold EntryCells.newEntry newFields;refine Gm (JP ?_ (hpl.sizeOk5 _ _ _ _ _));have e1:h1.get? e=some oe:=(so.2.1 e nfr).trans he;generalize ho:({ cls := .type "traceback",dict:=none,data := .fields ([head,.ref L,.none,rawInt L,.none]++(if pl.isEmpty then Gq 6 Iy else pl)).toArray }:Io)=oT
 have dT:oT.data = .fields ([head,.ref L,.none,rawInt L,.none]++(if pl.isEmpty then Gq 6 Iy else pl)).toArray:=by rw [← ho]
 have fT:oT.isFreed=false:=by rw [← ho];rfl
 have e2:(h1.push oT).get? e=some oe:=Gx oT e1;refine LO e2 hd hz ?_;have ne:h1.objs.size≠e:=KN (Ha e1);have fr0:s.heap.get? h1.objs.size=none:=Kq (by rw [so.1];exact Go _);have d3:=IS hd (·.setIfInBounds 1 (Hq h1.objs.size));refine h _ h1.objs.size fr0 ne (IF _ e2 (Ki d3)) ⟨oT,_,(HK _ _ (HA ne)).trans (GZ.get?_push_at rfl fT),dT,?_⟩ ⟨fun b o hb n1 _ n2=>?_,fun b o hb n1 _=>?_⟩
 ·rcases hpl with rfl | ⟨_,_,_,_,_,_,_,rfl⟩ <;> simp
 ·rw [HK _ _ (HA n1)]
  exact Gx _ ((so.2.1 b n2).trans hb)
 ·obtain ⟨sl,q⟩:=so.2.2 b o hb
  exact ⟨sl,by rw [HK _ _ (HA n1)];exact Gx _ q⟩
theorem xA {Q:Unit->Gp->Prop} (hfr:A.frames=some (env::outer)) (hl:s.heap.FunFrames base (env::outer)) (hf:env.frame=some L) (F:Fly s.heap e T C dx .none)
  (h:∀ h' t',s.heap.get? t'=none->Fly h' e (some t') C dx (rawInt L)->Eh (frs (env::outer)) e T s.heap h'->Q () { s with heap:=h' }):wpAny M A (noteFrame (.ref e) env) Q E s:=by
 obtain ⟨oe,vs,he,hc,hx,hd,h1⟩:=F.rc;have hz:1<vs.size:=(JM.mp h1).1;unfold noteFrame;simp only [hf];refine Gm (wpAny_field he hd h1 ?_);cases T with
 | none =>
  rw [F9 (by decide)];refine uP hfr hl hf he hd hz fun h' t' n1 n2 g1 g2 p=>h h' t' n1 ⟨⟨_,_,g1,(L1 _ _).trans hc,(mV _ _).trans hx,IS hd _,by simp [trV,hz]⟩,fun t q=>?_⟩ p
  cases q;exact ⟨n2,g2⟩
 | some t =>
  obtain ⟨nt,oT,ts,hT,dT,h3⟩:=F.tr t rfl;rw [Ga (show (trV (some t) != Iy)=true by simp [trV])];refine Gm (wpAny_field (show s.heap.get? t=some oT from hT) dT h3 ?_);rw [F9 (show ¬ ((Iy == rawInt L)=true) by simp [rawInt])];refine Gm (LO hT dT (JM.mp h3).1 ?_);generalize hg:s.heap.update t (LN (·.setIfInBounds 3 Iy))=g;have oth:∀ b,b≠t->g.get? b=s.heap.get? b:=fun b hb=>by rw [← hg];exact HK _ _ (HA hb)
  have at_t:g.get? t=some (oT.mapFields (·.setIfInBounds 3 Iy)):=by rw [← hg];exact IF _ hT (Ki (IS dT _))
  have nfr:∀ b o,s.heap.get? b=some o->(∀ ws,o.data ≠ .fields ws)->b≠t:=fun b o hb nf q=>by
   rw [q,hT] at hb;cases hb;exact nf ts dT
  have hl':g.FunFrames base (env::outer):=hl.of_keeps fun b o hb nf=>⟨o,(oth b (nfr b o hb nf)).trans hb,rfl⟩
  have old:∀ b,g.get? b=none->s.heap.get? b=none:=fun b q=>by
   by_cases z:b=t
   ·rw [z,at_t] at q;cases q
   ·rw [← oth b z];exact q
  refine uP (s:={ s with heap:=g }) hfr hl' hf ((oth e (HA nt)).trans he) hd hz fun h' t' n1 n2 g1 g2 p=>h h' t' (old t' n1) ⟨⟨_,_,g1,(L1 _ _).trans hc,(mV _ _).trans hx,IS hd _,by simp [trV,hz]⟩,fun t q=>?_⟩
   ⟨fun b o hb m1 m2 m3=>p.keep b o ((oth b fun q=>m2 (by rw [q])).trans hb) m1 (by simp) m3,fun b o hb m1 m2=>p.slot b o ((oth b fun q=>m2 (by rw [q])).trans hb) m1 (by simp)⟩
  cases q;exact ⟨n2,g2⟩
theorem pP {t:Gf} {Q:Unit->Gp->Prop} (F:Fly s.heap e (some t) C dx f)
  (h:∀ h',Fly h' e (some t) C dx .none->(∀ b o,b≠t->s.heap.get? b=some o->h'.get? b=some o)->Q () { s with heap:=h' }):wpAny M A (setFlight (.ref e) none) Q E s:=by
 obtain ⟨oe,vs,he,hc,hx,hd,h1⟩:=F.rc;obtain ⟨nt,oT,ts,hT,dT,h3⟩:=F.tr t rfl;have z3:3<ts.size:=(JM.mp h3).1;have oth:∀ b,b≠t->(s.heap.update t (LN (·.setIfInBounds 3 Iy))).get? b=s.heap.get? b:=fun b hb=>HK _ _ (HA hb)
 refine wpAny_setFlight_none he hd h1 hT dT z3 (h _ ⟨⟨oe,vs,(oth e (HA nt)).trans he,hc,hx,hd,h1⟩,fun t' q=>?_⟩ fun b o hb q=>(oth b hb).trans q)
 cases q;exact ⟨nt,_,_,IF _ hT (Ki (IS dT _)),IS dT _,by simp [z3]⟩
theorem Bw {Q:Unit->Gp->Prop} (hfr:A.frames=some (env::outer)) (hl:s.heap.FunFrames base (env::outer)) (hf:env.frame=some L) (F:Fly s.heap e T C dx .none)
  (h:∀ h' t',s.heap.get? t'=none->Fly h' e (some t') C dx .none->Eh (frs (env::outer)) e T s.heap h'->Q () { s with heap:=h' }):wpAny M A (leaving env (.ref e)) Q E s:=by
 unfold leaving;refine Gm (xA hfr hl hf F fun h1 t' n1 F1 p=>?_)
 refine pP (s:={ s with heap:=h1 }) F1 fun h2 F2 k=>h h2 t' n1 F2 ⟨fun b o hb m1 m2 m3=>?_,fun b o hb m1 m2=>?_⟩
 ·exact k b o (fun q=>by rw [q,n1] at hb;cases hb) (p.keep b o hb m1 m2 m3)
 ·obtain ⟨sl,q⟩:=p.slot b o hb m1 m2
  exact ⟨sl,k b _ (fun q'=>by rw [q',n1] at hb;cases hb) q⟩
end
theorem f8.get {P:Hk} {w:Hy} {H:Hp} {h:GZ} {a:Gf} {o:HO} (x:f8 P w H h a o):∃ ob,h.get? a=some ob:=by
 cases o with
 | lst xs=>obtain ⟨_,_,_,_,e⟩:=x;exact ⟨_,e⟩
 | tup xs=>obtain ⟨_,_,_,ob,e,_⟩:=x;exact ⟨_,e⟩
 | dK kvs=>obtain ⟨_,_,_,_,ob,_,_,e,_⟩:=x;exact ⟨_,e⟩
 | dT kvs=>obtain ⟨_,_,_,_,ob,_,_,e,_⟩:=x;exact ⟨_,e⟩
 | set S n=>obtain ⟨ob,_,_,_,e,_⟩:=x;exact ⟨_,e⟩
 | ins C dx fs=>obtain ⟨_,_,_,e,_⟩:=x;exact ⟨_,e⟩
 | own y=>obtain ⟨_,e⟩:=x;exact ⟨_,e⟩
 | xd fs=>obtain ⟨_,⟨_,_,_,e,_⟩,_⟩:=x;exact ⟨_,e⟩
 | rng lo hi=>obtain ⟨_,_,_,e⟩:=x;exact ⟨_,e⟩
 | frz ob u=>obtain ⟨e,_⟩:=x;exact ⟨_,e⟩
 | tbl ps=>exact ⟨_,show h.get? a=some _ from x⟩
 | met f y=>exact ⟨_,show h.get? a=some _ from x⟩
 | ext φ=>obtain ⟨_,⟨_,e⟩,_⟩:=x;exact ⟨_,e⟩
theorem HOk.new {P:Hk} {w:Hy} {H:Hp} {h:GZ} {a:Gf} (x:HOk P w H h) (n:h.get? a=none):H a=none:=by
 cases q:H a with
 | none=>rfl
 | some o =>
  obtain ⟨ob,e⟩:=(x a o q).get;rw [n] at e;cases e
theorem HOk.stays {P:Hk} {w:Hy} {H:Hp} {h h':GZ} (x:HOk P w H h) (k:∀ b o,H b≠none->h.get? b=some o->h'.get? b=some o):HOk P w H h':=fun a o e =>
 (x a o e).stay (fun b u hb q=>k b u (by rcases hb with rfl | hb <;> simp [*]) q) (fun _ q=>q) fun _ _ q=>q
def del (H:Hp) (a:Gf):Hp:=fun b=>if b=a then none else H b
theorem ip {H:Hp} {a:Gf}:del H a a=none:=by unfold del;rw [Ga rfl]
theorem gj {H:Hp} {a b:Gf} (h:b≠a):del H a b=H b:=by unfold del;rw [F9 h]
theorem HOk.del {P:Hk} {w:Hy} {H:Hp} {h:GZ} {a:Gf} {φ:GZ->Prop} (x:HOk P w H h) (ha:H a=some (.ext φ)):HOk P w (del H a) h:=fun b o e=>by
 have nb:b≠a:=fun q=>by rw [q,ip] at e;cases e
 rw [gj nb] at e;exact (x b o e).stay (fun _ _ _ q=>q) (fun c q=>by rw [gj fun z=>by rw [z,ha] at q;cases q];exact q) fun c xs q=>by rw [gj fun z=>by rw [z,ha] at q;cases q];exact q
theorem Un.del {fs ex:List Gf} {H H':Hp} {h h':GZ} {a:Gf} {φ:GZ->Prop} (u:Un fs ex H H' h h') (ha:H' a=some (.ext φ)):Un fs ex H (del H' a) h h':=by
 have ne:∀ b o,H' b=some o->(∀ ψ,o ≠ .ext ψ)->b≠a:=fun b o q n z=>by rw [z,ha] at q;cases q;exact n _ rfl
 refine ⟨u.keep,u.slot,fun b o q n hx=>?_,u.there,fun b xs q=>?_,fun b o v q=>?_,fun b ps q=>?_⟩
 ·unfold L2.del
  split
  ·rfl
  ·exact u.free b o q n hx
 ·have e:=u.tups b xs q
  rw [gj (ne b _ e fun ψ z=>by cases z)]
  exact e
 ·have e:=u.frzs b o v q
  rw [gj (ne b _ e fun ψ z=>by cases z)]
  exact e
 ·obtain ⟨m,e⟩:=u.tbls b ps q
  exact ⟨m,by rw [gj (ne b _ e fun ψ z=>by cases z)];exact e⟩
theorem Un.pass {fs fs':List Gf} {H H':Hp} {h h1 h2:GZ} {e:Gf} {T:Option Gf} (u:Un fs [] H H' h h1) (p:Eh fs' e T h1 h2) (ne:h.get? e=none) (nT:∀ t,T=some t->h.get? t=none) (sub:∀ b∈fs',b∈fs∨h.get? b=none):Un fs [] H H' h h2:=by
 have n1:∀ b o,h.get? b=some o->b≠e/\T≠some b:=fun b o q=>⟨fun z=>(by rw [z,ne] at q;cases q),fun z=>(by rw [nT b z] at q;cases q)⟩
 refine ⟨fun b o q n hb hx=>?_,fun b o q n hb hx=>?_,u.free,fun b o q hx=>?_,u.tups,u.frzs,u.tbls⟩
 ·refine p.keep b o (u.keep b o q n hb hx) (n1 b o q).1 (n1 b o q).2 fun z=>?_
  rcases sub b z with z | z
  ·exact hb z
  ·rw [z] at q;cases q
 ·obtain ⟨sl,g⟩:=u.slot b o q n hb hx
  obtain ⟨sl',g'⟩:=p.slot b _ g (n1 b o q).1 (n1 b o q).2;exact ⟨sl',g'⟩
 ·obtain ⟨o',g⟩:=u.there b o q hx
  obtain ⟨sl,g'⟩:=p.slot b o' g (n1 b o q).1 (n1 b o q).2;exact ⟨_,g'⟩
def CXF (P:Hk) (w:Hy):CXT:=fun outer H s E x s'=>∃ (e t C dx:Gf) (H':Hp),x = .ref e/\s'.os=s.os/\LY s'.gens/\Un (frs outer) [] H H' s.heap s'.heap/\HOk P w H' s'.heap /\
 s.heap.get? e=none/\H' e=none/\s.heap.get? t=none/\H' t=none/\Fly s'.heap e (some t) C dx .none/\E (.ref C) (some dx) H'
theorem eG {P:Hk} {w:Hy} {X:Cx}:jd (CXF P w) X E0:=fun _ _ _ _ _ _ _ h=>by
 obtain ⟨_,_,_,_,_,_,_,_,_,_,_,_,_,_,_,hE⟩:=h;exact hE.elim
section
variable {cm:Bool} {P:Hk} {w:Hy} {K:Gh} {mg:G9->Option Gg} {base:GZ} {N:List G9} {qual:G9} {scope:JL} {f:Gf} {cd:Gg} {A:HB} {outer:List L5} {s:Gp} {H:Hp} {E:XK}
theorem C0 {pins:List (Gf×Io)} {σ:St} {H1:Hp} {s1:Gp} {e C dx:Gf} {T:Option Gf} (I:Inv (cxOf cm (CXF P w) P w K mg base N qual scope f cd A outer s H E) pins σ H1 s1) (F:Fly s1.heap e T C dx .none)
  (ne:s.heap.get? e=none) (he:H1 e=none) (nT:∀ t,T=some t->s.heap.get? t=none/\H1 t=none) (hE:E (.ref C) (some dx) H1):(cxOf cm (CXF P w) P w K mg base N qual scope f cd A outer s H E).xe (.ref e) s1:=by
 show wpAny (model P w) (A.deeper (envOfC qual scope s.heap.objs.size f cd)) (leaving (envOfC qual scope s.heap.objs.size f cd) (.ref e)) (fun _ s''=>CXF P w outer H s E (.ref e) s'') _ s1
 refine Bw (base:=base) I.ok.frames I.stack rfl F fun h' t' n1 F' p=>?_
 have un0:Un (frs outer) [] H H1 s.heap s1.heap:=I.base;have n0:s.heap.get? t'=none:=by
  cases q:s.heap.get? t' with
  | none=>rfl
  | some o =>
   obtain ⟨o',z⟩:=un0.there t' o q (by simp);rw [n1] at z;cases z
 refine ⟨e,t',C,dx,H1,rfl,I.os,I.bare,un0.pass p ne (fun t q=>(nT t q).1) fun b hb=>?_,I.hok.stays fun b o hn q=>?_,ne,he,n0,I.hok.new n1,F',hE⟩
 ·rcases Gu.mp (show b∈s.heap.objs.size::frs outer from hb) with z | z
  ·right
   rw [z];exact Kq (Go _)
  ·exact .inl z
 ·refine p.keep b o q (fun z=>hn (by rw [z];exact he)) (fun z=>hn (nT b z).2) fun z=>hn (I.stkFree b z)
theorem fD:jd (CXF P w) (cxOf cm (CXF P w) P w K mg base N qual scope f cd A outer s H E) E:=by
 intro pins σ H1 s1 x s' I h;obtain ⟨e,t,C,dx,H',rfl,hos,hb,un,hok,ne,he,nt,ht,fl,hE⟩:=h;have I':Inv (cxOf cm (CXF P w) P w K mg base N qual scope f cd A outer s H E) pins σ H' s':=by
  obtain ⟨hh,g,d,tk,os'⟩:=s';obtain rfl:os'=s1.os:=hos;exact I.call (h':=hh) (g':=g) (d':=d) (t':=tk) (ch:=[]) un hok hb (fun b z=>absurd z (by simp))
 have old:∀ b,s1.heap.get? b=none->s.heap.get? b=none:=fun b q=>by
  cases z:s.heap.get? b with
  | none=>rfl
  | some o =>
   obtain ⟨o',z'⟩:=I.base.there b o z (by simp [cxOf]);rw [q] at z';cases z'
 exact C0 I' fl (old e ne) he (fun b q=>by cases q;exact ⟨old t nt,ht⟩) hE
end
abbrev bmE:List Gg:=[.type "Exception",.type "BaseException",.type "object"]
abbrev xRec (C t:Gf) (d:Option Gf):Io:={ cls := .ref C,dict:=d,data := .fields #[.ref t,.none,.none,.none,.bool false,.none] }
section
variable {prog:Hk} {w:Hy} {A:HB} {E:Gg->Gp->Prop} {h:GZ} {g:Array GenState} {d:Drawn} {t:Nat} {os:OsState}
variable {nm q:G9} {C N x t0:Gf} {bs:List Gg} {sn:List G9} {sub:List Gg} {ab:Bool} {col:Option Bool} {dd:Option Gf} {k0 k1 k2 k3 k5:Option Gg} {newId:String} {mN mA:G9->Option Gg} {name:G9} {v:Gg} {sa owner:String}
theorem En {tk:Tok} {o:Io} {Q:Fin->Gp->Prop} (SF:StoreFacts "Exception" bmE sa owner) (hC:h.get? C=some (excClassObj nm q C N bs bmE true sn sub ab col dd k0 k1 k2 k3 k5 newId)) (hn:h.Ns N mN) (hna:mN name=none)
  (hB:typeLookup (.type "Exception") name=pure none) (hx:h.get? x=some o) (hc:o.cls = .ref C) (hdn:o.dict=none) (hnc:∀ c,o.data ≠ .cls c)
  (hq:∀ h' tk',h'.get? x=some { o with dict:=some h.objs.size }->h'.Ns1 h.objs.size (fun y=>if y=name then some v else none)->(∀ b o,b≠x->h.get? b=some o->h'.get? b=some o)->Q (.done (.ret .none)) ⟨h',g,d,tk',os⟩) :
  wpAny (model prog w) A (Ht.«object.__setattr__» ⟨[.ref x,.str name tk,v],[]⟩) Q E ⟨h,g,d,t,os⟩:=by
 have go:=SF.passes (.ref x);unfold Ht.«object.__setattr__»;repeat (first | rw [refuse_eq] | (rw [refuseLoop_ref,go]) | (with_reducible refine Jd hx ?_;rw [hc]) | with_reducible refine wpAny_mroOf_exc hC ?_ | (with_reducible refine JW hC hn SF.mro hB ?_;rw [hna]) | wp_step)
 rw [hdn,F9 (by simp [typeHasDict])];split
 ·rename_i z
  cases z
 split
 ·rename_i c z
  exact absurd z (hnc c)
 have x1:(h.push { cls := .type "dict",data := .dict #[] }).get? x=some o:=Gx _ hx;have ne:x≠h.objs.size:=Hu (Ha hx);refine Gm (wpAny_alloc' ?_);refine Gm (wpAny_update' x1 ?_);refine GY ?_;generalize hg:((h.push { cls := .type "dict",data := .dict #[] }).update x fun o=>{ cls:=o.cls,dict:=some h.objs.size,data:=o.data,slots:=o.slots })=k
 have k1':k.get? h.objs.size=some { cls := .type "dict",data := .dict #[] }:=by
  rw [← hg];exact (GZ.get?_update_ne _ _ _ _ ne.symm).trans (GZ.get?_push_at rfl rfl)
 have k2':k.Ns h.objs.size (fun _=>none):=⟨_,#[],_,k1',rfl,fun e he=>absurd he (by simp),fun _=>rfl⟩
 have k3':k.get? x=some { o with dict:=some h.objs.size }:=by
  rw [← hg];refine IF _ x1 ?_;have fr:=(GZ.get?_some_iff.mp hx).2;obtain ⟨oc,od,odt,osl⟩:=o;cases odt <;> first | rfl | exact fr
 have k4':∀ b o,b≠x->h.get? b=some o->k.get? b=some o:=fun b o hb e=>by
  rw [← hg];exact (GZ.get?_update_ne _ _ _ _ hb).trans (Gx _ e)
 show wpAny _ _ (storeInDict h.objs.size (.str name tk) name v) _ _ _;unfold storeInDict newKeyGuard;refine Gm (GY (Gm (wpAny_nsSet1 (GZ.Ns1.of_empty k2') fun h' n' sb=>?_)))
 obtain ⟨oD,esD,epD,hoD,hdD,hcD⟩:=n'.count (Within.cons name v Within.nil);refine Gm (wpAny_lookBehind hoD (by rw [hdD];exact pastItsLine_dict (Ie hcD (by rw [GQ,Ja,Hj];omega))) ?_)
 wp_walk
 exact hq h' _ ((sb.2 x ne).trans k3') n' fun b o hb e=>(sb.2 b (Hu (Ha e))).trans (k4' b o hb e)
theorem Ep {tk:Tok} {o:Io} {R:Result->Gp->Prop} (SF:StoreFacts "Exception" bmE sa owner) (hC:h.get? C=some (excClassObj nm q C N bs bmE true sn sub ab col dd k0 k1 k2 k3 k5 newId)) (hn:h.Ns N mN) (hna:mN name=none)
  (hB:typeLookup (.type "Exception") name=pure none) (hx:h.get? x=some o) (hc:o.cls = .ref C) (hdn:o.dict=none) (hnc:∀ c,o.data ≠ .cls c)
  (hq:∀ h' tk',h'.get? x=some { o with dict:=some h.objs.size }->h'.Ns1 h.objs.size (fun y=>if y=name then some v else none)->(∀ b o,b≠x->h.get? b=some o->h'.get? b=some o)->R (.ok (.ret .none)) ⟨h',g,d,tk',os⟩) :
  codeAny (model prog w) A (.call (.builtin sa) ⟨[.ref x,.str name tk,v],[]⟩) R ⟨h,g,d,t,os⟩ :=
 codeAny_call_builtin SF.slot.plain SF.entry (wpAny_check_sa SF hC hx hc (En SF hC hn hna hB hx hc hdn hnc hq))
theorem x_set1 {o:Io} {Q:Unit->Gp->Prop} (SF:StoreFacts "Exception" bmE sa owner) (hC:h.get? C=some (excClassObj nm q C N bs bmE true sn sub ab col dd k0 k1 k2 k3 k5 newId)) (hn:h.Ns N mN) (hns:mN "__setattr__"=none) (hna:mN name=none)
  (hB:typeLookup (.type "Exception") name=pure none) (hx:h.get? x=some o) (hc:o.cls = .ref C) (hdn:o.dict=none) (hnc:∀ c,o.data ≠ .cls c)
  (hq:∀ h' tk',h'.get? x=some { o with dict:=some h.objs.size }->h'.Ns1 h.objs.size (fun y=>if y=name then some v else none)->(∀ b o,b≠x->h.get? b=some o->h'.get? b=some o)->Q () ⟨h',g,d,tk',os⟩) :
  wpAny (model prog w) A (setAttr (.ref x) name v) Q E ⟨h,g,d,t,os⟩:=by
 have b3:=SF.slot.bind (.ref x);unfold setAttr callSpecial? specialOf;repeat (any_goals (first | assumption | (with_reducible refine Jd hx ?_;rw [hc]) | (with_reducible refine JW hC hn SF.mro SF.slot.lookup ?_;rw [hns]) | wp_step))
 refine Ep SF hC hn hna hB hx hc hdn hnc fun h' tk' e1 e2 e3=>?_
 repeat (any_goals (first | assumption | wp_step))
 exact hq h' tk' e1 e2 e3
theorem x_set2 {dx:Gf} {ns:List G9} {Q:Unit->Gp->Prop} (hC:h.get? C=some (excClassObj nm q C N bs bmE true sn sub ab col dd k0 k1 k2 k3 k5 newId)) (hn:h.Ns N mN) (hns:mN "__setattr__"=none) (hna:mN name=none)
  (hB:typeLookup (.type "Exception") name=pure none) (hx:h.get? x=some (xRec C t0 (some dx))) (hxC:x≠C) (hdx:dx≠x) (hm:h.Ns1 dx mA) (hw:Within mA ns) (hz:ns.length<=sizeLine)
  (hq:∀ h' tk',h'.get? x=some (xRec C t0 (some dx))->h'.Ns1 dx (fun y=>if y=name then some v else mA y)->(∀ b o,b≠dx->h.get? b=some o->h'.get? b=some o)->Q () ⟨h',g,d,tk',os⟩) :
  wpAny (model prog w) A (setAttr (.ref x) name v) Q E ⟨h,g,d,t,os⟩:=by
 refine store_attr KY hC hn hns hna hB hxC ⟨_,hx,rfl,fun c z=>(by cases z),.inr ⟨dx,rfl,hdx,hm⟩⟩ (fun h' tk' I' k1' k2'=>?_) hw hz
 obtain ⟨o1,e1,c1,c2,c3,c4⟩:=k2' _ hx;have e2:o1=xRec C t0 (some dx):=by
  have:=c4 dx rfl;obtain ⟨a1,a2,a3,a4⟩:=o1;simp only at c1 c2 c3 this;subst c1 c2 c3 this;rfl
 subst e2;have e3:h'.Ns1 dx (fun y=>if y=name then some v else mA y):=by
  obtain ⟨o,i1,i2,i3,i4⟩:=I';rw [e1] at i1;cases i1;rcases i4 with ⟨z,_⟩ | ⟨d',z,_,n'⟩
  ·cases z
  ·cases z
   exact n'
 refine hq h' tk' e1 e3 fun b o hb e=>?_
 by_cases z:b=x
 ·rw [z] at e ⊢
  rw [hx] at e;cases e;exact e1
 ·refine k1' b o z (fun o0 d0 q1 q2=>?_) e
  rw [hx] at q1;cases q1;cases q2;exact hb
theorem x_read {tk:Tok} {o:Io} {dx:Gf} {Q:Fin->Gp->Prop} (hC:h.get? C=some (excClassObj nm q C N bs bmE true sn sub ab col dd k0 k1 k2 k3 k5 newId)) (hn:h.Ns N mN) (hna:mN name=none)
  (hB:typeLookup (.type "Exception") name=pure none) (hx:h.get? x=some o) (hc:o.cls = .ref C) (hd:o.dict=some dx) (hnc:∀ c,o.data ≠ .cls c) (hm:h.Ns1 dx mA) (hv:mA name=some v) (hq:Q (.done (.ret v)) ⟨h,g,d,t,os⟩) :
  wpAny (model prog w) A (Ht.«object.__getattribute__» ⟨[.ref x,.str name tk],[]⟩) Q E ⟨h,g,d,t,os⟩:=by
 unfold Ht.«object.__getattribute__»;repeat (first | (with_reducible refine Jd hx ?_;rw [hc]) | (with_reducible refine JW hC hn KY.mro hB ?_;rw [hna]) | wp_step)
 split
 ·rename_i c z
  exact absurd z (hnc c)
 unfold instanceDict;repeat (first | (with_reducible refine Jd hx ?_;rw [hc]) | with_reducible refine Jd hC ?_ | wp_step)
 rw [hd];repeat (first | (with_reducible refine wpAny_nsGet hm.ns ?_;rw [hv]) | wp_step)
 exact hq
theorem Eo {o:Io} {M:Model} {nameV:Gg} {Q:Unit->Gp->Prop} (hC:h.get? C=some (excClassObj nm q C N bs bmE true sn sub ab col dd k0 k1 k2 k3 k5 newId))
  (hx:h.get? x=some o) (hc:o.cls = .ref C) (hq:Q () ⟨h,g,d,t,os⟩):wpAny M A (checkBuiltinCall "BaseException.__getattribute__" ⟨[.ref x,nameV],[]⟩) Q E ⟨h,g,d,t,os⟩ :=
 wpAny_check_ga_own KC hC .base hx hc hq
theorem x_run {tk:Tok} {o:Io} {dx:Gf} {R:Result->Gp->Prop} (FB:ExcAttrFacts "Exception") (hC:h.get? C=some (excClassObj nm q C N bs bmE true sn sub ab col dd k0 k1 k2 k3 k5 newId)) (hn:h.Ns N mN) (hna:mN name=none)
  (hB:typeLookup (.type "Exception") name=pure none) (hx:h.get? x=some o) (hc:o.cls = .ref C) (hd:o.dict=some dx) (hnc:∀ c,o.data ≠ .cls c) (hm:h.Ns1 dx mA) (hv:mA name=some v) (hq:R (.ok (.ret v)) ⟨h,g,d,t,os⟩) :
  codeAny (model prog w) A (.call (.builtin "BaseException.__getattribute__") ⟨[.ref x,.str name tk],[]⟩) R ⟨h,g,d,t,os⟩ :=
 codeAny_call_builtin FB.ga.plain PySem.F.entry_bexc_ga (Eo hC hx hc (x_read hC hn hna hB hx hc hd hnc hm hv hq))
theorem x_by {tk:Tok} {o:Io} {dx:Gf} {fill expr:Bool} {Q:Gg->Gp->Prop} (FB:ExcAttrFacts "Exception") (hmr:mroOf (.type "Exception")=pure bmE) (hg0:typeLookup (.type "Exception") "__getattr__"=pure none)
  (hC:h.get? C=some (excClassObj nm q C N bs bmE true sn sub ab col dd k0 k1 k2 k3 k5 newId)) (hn:h.Ns N mN) (hng:mN "__getattribute__"=none) (hnh:mN "__getattr__"=none) (hna:mN name=none)
  (hB:typeLookup (.type "Exception") name=pure none) (hx:h.get? x=some o) (hc:o.cls = .ref C) (hd:o.dict=some dx) (hnc:∀ c,o.data ≠ .cls c) (hm:h.Ns1 dx mA) (hv:mA name=some v) (hh:handedOut v=pure v) (hq:Q v ⟨h,g,d,t,os⟩) :
  wpAny (model prog w) A (getAttrBy (.ref x) (.str name tk) fill expr) Q E ⟨h,g,d,t,os⟩:=by
 have b3:=FB.ga.bind (.ref x);have z0:(expr && onTheHeap (Kh "BaseException.__getattribute__"))=false:=by cases expr <;> rfl
 have z2:(Kh "BaseException.__getattribute__" == Kh "object.__getattribute__")=false:=by decide +kernel
 have z1:(onTheHeap (Hq C) && Kh "BaseException.__getattribute__" == Kh "object.__getattribute__")=false:=by rw [z2];rfl
 repeat (any_goals (first | assumption | (with_reducible refine Jd hx ?_;rw [hc]) | (with_reducible refine JW hC hn hmr FB.ga.lookup ?_;rw [hng]) | (with_reducible refine JW hC hn hmr hg0 ?_;rw [hnh]) | wp_step))
 refine x_run FB hC hn hna hB hx hc hd hnc hm hv ?_;repeat (any_goals (first | assumption | wp_step))
end
theorem x_get {prog:Hk} {w:Hy} {A:HB} {E:Gg->Gp->Prop} {h:GZ} {g:Array GenState} {d:Drawn} {t:Nat} {os:OsState}
  {nm q:G9} {C N x:Gf} {bs:List Gg} {sn:List G9} {sub:List Gg} {ab:Bool} {col:Option Bool} {dd:Option Gf} {k0 k1 k2 k3 k5:Option Gg} {newId:String} {mN mA:G9->Option Gg} {name:G9} {v:Gg}
  {o:Io} {dx:Gf} {expr:Bool} {Q:Gg->Gp->Prop} (FB:ExcAttrFacts "Exception") (hmr:mroOf (.type "Exception")=pure bmE) (hg0:typeLookup (.type "Exception") "__getattr__"=pure none)
  (hC:h.get? C=some (excClassObj nm q C N bs bmE true sn sub ab col dd k0 k1 k2 k3 k5 newId)) (hn:h.Ns N mN) (hng:mN "__getattribute__"=none) (hnh:mN "__getattr__"=none) (hna:mN name=none)
  (hB:typeLookup (.type "Exception") name=pure none) (hx:h.get? x=some o) (hc:o.cls = .ref C) (hd:o.dict=some dx) (hnc:∀ c,o.data ≠ .cls c) (hm:h.Ns1 dx mA) (hv:mA name=some v) (hh:handedOut v=pure v)
  (hq:Q v ⟨h,g,d,t+1,os⟩):wpAny (model prog w) A (getAttr (.ref x) name expr) Q E ⟨h,g,d,t,os⟩:=by
 unfold getAttr;repeat (any_goals (first | assumption | with_reducible apply x_by FB hmr hg0 hC hn hng hnh hna hB hx hc hd hnc hm hv hh | wp_step))
structure qU (K:Gh) (C fI:Gf) (flds:List G9):Prop where
 at_:∀ h:GZ,K.In h->∃ (nm q:G9) (N:Gf) (bs:List Gg) (sn:List G9) (sub:List Gg) (ab:Bool) (col:Option Bool) (dd:Option Gf) (k0 k1 k2 k3 k5:Option Gg) (mN:G9->Option Gg),
  h.get? C=some (excClassObj nm q C N bs bmE true sn sub ab col dd k0 k1 k2 k3 k5 "Exception.__new__")/\h.Ns N mN/\mN "__init__"=some (.ref fI)/\mN "__setattr__"=none/\mN "__getattribute__"=none/\mN "__getattr__"=none/\∀ n∈flds,mN n=none
 own:∀ n∈flds,typeLookup (.type "Exception") n=pure none
 fn:∀ h:GZ,K.In h->∃ oI:Io,h.get? fI=some oI/\oI.cls = .type "function"
 kp:HL K (.ref C)=true
def qH (C e t:Gf) (d:Option Gf):HO := .ext fun h=>h.get? e=some (xRec C t d)
def qa (dx:Gf) (fs:List (G9×V)):HO := .ext fun h=>∃ mA,h.Ns1 dx mA/\(∀ f,jB (fs.lookup f) (mA f))/\KB mA (fs.map (·.1))
def ot (C e dx:Gf):HO := .ext fun h=>∃ (o:Io) (vs:Array Gg),h.get? e=some o/\o.cls = .ref C/\o.dict=some dx/\o.data = .fields vs
section
variable {P:Hk} {w:Hy} {H:Hp} {h:GZ} {C e t dx:Gf} {d:Option Gf} {fs:List (G9×V)}
theorem y8 (q:h.get? e=some (xRec C t d)):f8 P w H h e (qH C e t d):=⟨q,⟨_,q⟩,fun _ _ p k=>k _ p⟩
theorem wk {mA:G9->Option Gg} (n:h.Ns1 dx mA) (r:∀ f,jB (fs.lookup f) (mA f)) (wi:KB mA (fs.map (·.1))):f8 P w H h dx (qa dx fs):=by
 refine ⟨⟨mA,n,r,wi⟩,?_,fun h1 h2 ⟨m,n1,r1,w1⟩ k=>⟨m,n1.at fun o q=>k o q,r1,w1⟩⟩
 obtain ⟨o,_,_,q,_⟩:=n;exact ⟨o,q⟩
theorem BJ {o:Io} {vs:Array Gg} (q:h.get? e=some o) (c:o.cls = .ref C) (x:o.dict=some dx) (f:o.data = .fields vs):f8 P w H h e (ot C e dx) :=
 ⟨⟨o,vs,q,c,x,f⟩,⟨_,q⟩,fun _ _ ⟨o,vs,p1,p2⟩ k=>⟨o,vs,k _ p1,p2⟩⟩
end
theorem Inv.change {X:Cx} {pins:List (Gf×Io)} {σ:St} {H H':Hp} {s:Gp} {h':GZ} {t':Nat} (I:Inv X pins σ H s) (L:List Gf) (k:∀ b o,b∉L->s.heap.get? b=some o->h'.get? b=some o)
  (hL:∀ b∈L,(∃ φ,H b=some (.ext φ))∨s.heap.get? b=none) (hH:∀ b,b∉L->H' b=H b) (new:∀ b∈L,∃ o,H' b=some o/\f8 X.prog X.w H' h' b o):Inv X pins σ H' { s with heap:=h',toks:=t' }:=by
 have nL:∀ b o,H b=some o->(∀ φ,o ≠ .ext φ)->b∉L:=fun b o q n z=>by
  rcases hL b z with ⟨φ,g⟩ | g
  ·rw [q] at g
   cases g;exact n _ rfl
  ·obtain ⟨ob,q'⟩:=(I.hok b o q).get
   rw [g] at q';cases q'
 have nU:∀ b o,s.heap.get? b=some o->H b=none->b∉L:=fun b o q n z=>by
  rcases hL b z with ⟨φ,g⟩ | g
  ·rw [n] at g;cases g
  ·rw [q] at g;cases g
 refine I.un ⟨fun b o q n _ _=>k b o (nU b o q n) q,fun b o q n _ _=>⟨o.slots,k b o (nU b o q n) q⟩,fun b o q n _=>(hH b (nU b o q n)).trans n,fun b o q _=>?_,
  fun b xs q=>(hH b (nL b _ q fun φ z=>by cases z)).trans q,fun b o v q=>(hH b (nL b _ q fun φ z=>by cases z)).trans q,fun b ps q=>⟨#[],by rw [hH b (nL b _ q fun φ z=>by cases z),q];simp⟩⟩ fun b o q=>?_
 ·by_cases z:b∈L
  ·obtain ⟨o',_,g⟩:=new b z
   exact g.get
  ·exact ⟨o,k b o z q⟩
 ·by_cases z:b∈L
  ·obtain ⟨o',g1,g2⟩:=new b z
   rw [q] at g1;cases g1;exact g2
  ·rw [hH b z] at q
   refine (I.hok b o q).stay (fun c u hc g=>k c u ?_ g) (fun c g=>(hH c (nL c _ g fun φ z=>by cases z)).trans g) fun c xs g=>(hH c (nL c _ g fun φ z=>by cases z)).trans g
   rcases hc with rfl | hc
   ·exact z
   ·exact nL c _ hc fun φ z=>by cases z
theorem Inv.del {X:Cx} {pins:List (Gf×Io)} {σ:St} {H:Hp} {s:Gp} {a:Gf} {φ:GZ->Prop} (I:Inv X pins σ H s) (ha:H a=some (.ext φ)):Inv X pins σ (del H a) s:=by
 have g:∀ b,H b=none->L2.del H a b=none:=fun b q=>by
  unfold L2.del;split
  ·rfl
  ·exact q
 exact ⟨I.ok,I.os,I.bare,I.base.del ha,I.loc,I.cell,g _ I.free,fun x c q=>g c (I.freeC x c q),fun p hp=>let ⟨p1,p2,p3⟩:=I.pin p hp;⟨p1,g _ p2,p3⟩,I.hok.del ha,I.len⟩
section
variable {X:Cx} {C fI:Gf} {flds:List G9} {o value:HM} {f:G9} {pos pos':Kv} {ta tv:TE}
def sX1 (C:Gf) (ta tv:TE) (f:G9):TS:=fun D σ H=>tv σ H fun y H1=>ta σ H1 fun x H2=>∃ e t,x = .ref e/\H2 e=some (qH C e t none) /\
 ∀ dx,H2 dx=none->dx≠e->D.nx σ (upd (upd H2 e (qH C e t (some dx))) dx (qa dx [(f,y)]))
theorem ps_x1 (XC:qU X.K C fI flds) (hf:f∈flds) (ha:PE X o ta) (hv:PE X value tv) (hs:swapsWith value (some (.Attribute o f pos')) pos.line X.env=pure false):PS X (.Assign [.Attribute o f pos'] value pos) (sX1 C ta tv f):=by
 intro pins s σ H D I h;refine Kr (thn (hv pins s σ H _ I h) fun u s1 ⟨y,H1,I1,ry,q⟩=>thn (ha pins s1 σ H1 _ I1 q) fun ov s2 ⟨x,H2,I2,rx,e,t,ex,ee,q2⟩=>?_) hs
 subst ex;obtain rfl:ov=Hq e:=rx;obtain ⟨nm,q',N,bs,sn,sub,ab,col,dd,k0,k1,k2,k3,k5,mN,hC,hn,_,hns,_,_,hna⟩:=XC.at_ _ I2.kIn;have he:s2.heap.get? e=some (xRec C t none):=(I2.hok e _ ee).1;obtain ⟨h,g,d,tk,os⟩:=s2;refine x_set1 KY hC hn hns (hna f hf) (XC.own f hf) he rfl rfl (fun c z=>by cases z) fun h' tk' e1 e2 e3=>?_
 have n1:H2 h.objs.size=none:=I2.hok.fresh (Go _);have n2:h.objs.size≠e:=KN (Ha he);refine ⟨σ,_,I2.change (h':=h') (t':=tk') [e,h.objs.size] (fun b o nb g1=>e3 b o (fun z=>nb (by simp [z])) g1) (fun b hb=>?_) (fun b nb=>?_) (fun b hb=>?_),q2 h.objs.size n1 n2⟩
 ·rcases Gu.mp hb with rfl | hb
  ·exact .inl ⟨_,ee⟩
  ·rw [G7.mp hb]
   exact .inr (Kq (Go _))
 ·rw [eK fun z=>nb (by simp [z]),eK fun z=>nb (by simp [z])]
 ·rcases Gu.mp hb with rfl | hb
  ·exact ⟨_,by rw [eK (HA n2),eC],y8 e1⟩
  ·rw [G7.mp hb]
   refine ⟨_,eC,wk e2 (fun z=>?_) fun z hz=>?_⟩
   ·show jB (([(f,y)]:List (G9×V)).lookup z) (if z=f then some u else none)
    by_cases zf:z=f
    ·rw [Ga zf,zf,List.lookup_cons_self];exact ry
    ·rw [F9 zf,HX,show (z == f)=false from beq_eq_false_iff_ne.mpr zf];exact JN
   ·by_cases zf:z=f
    ·simp [zf]
    ·exact absurd (F9 zf) hz
def sX2 (C:Gf) (ta tv:TE) (f:G9):TS:=fun D σ H=>tv σ H fun y H1=>ta σ H1 fun x H2=>∃ e t dx f0 y0,x = .ref e/\H2 e=some (qH C e t (some dx))/\dx≠e/\H2 dx=some (qa dx [(f0,y0)])/\f0≠f /\
 D.nx σ (upd H2 dx (qa dx [(f0,y0),(f,y)]))
theorem ps_x2 (XC:qU X.K C fI flds) (hf:f∈flds) (ha:PE X o ta) (hv:PE X value tv) (hs:swapsWith value (some (.Attribute o f pos')) pos.line X.env=pure false):PS X (.Assign [.Attribute o f pos'] value pos) (sX2 C ta tv f):=by
 intro pins s σ H D I h;refine Kr (thn (hv pins s σ H _ I h) fun u s1 ⟨y,H1,I1,ry,q⟩=>thn (ha pins s1 σ H1 _ I1 q) fun ov s2 ⟨x,H2,I2,rx,e,t,dx,f0,y0,ex,ee,nde,ed,nf,q2⟩=>?_) hs
 subst ex;obtain rfl:ov=Hq e:=rx;obtain ⟨nm,q',N,bs,sn,sub,ab,col,dd,k0,k1,k2,k3,k5,mN,hC,hn,_,hns,_,_,hna⟩:=XC.at_ _ I2.kIn;have he:s2.heap.get? e=some (xRec C t (some dx)):=(I2.hok e _ ee).1;obtain ⟨mA,nA,rA,wA⟩:=(I2.hok dx _ ed).1;have nC:e≠C:=fun z=>by
  obtain ⟨_,_,_,_,_,_,_,_,_,_,_,_,_,_,_,hC0,_⟩:=XC.at_ _ I2.ok.mod.kin;have:=(I2.bs _ _ hC0).2;rw [← z,ee] at this;cases this
 obtain ⟨h,g,d,tk,os⟩:=s2;refine x_set2 hC hn hns (hna f hf) (XC.own f hf) he nC nde nA wA (by show 1<=sizeLine;decide) fun h' tk' e1 e2 e3=>?_
 refine ⟨σ,_,I2.change (h':=h') (t':=tk') [dx] (fun b o nb g1=>e3 b o (fun z=>nb (by simp [z])) g1) (fun b hb=>?_) (fun b nb=>?_) (fun b hb=>?_),q2⟩
 ·rw [G7.mp hb]
  exact .inl ⟨_,ed⟩
 ·rw [eK fun z=>nb (by simp [z])]
 ·rw [G7.mp hb]
  refine ⟨_,eC,wk e2 (fun z=>?_) fun z hz=>?_⟩
  ·show jB (([(f0,y0),(f,y)]:List (G9×V)).lookup z) (if z=f then some u else mA z)
   have r0:=rA z;rw [HX] at r0 ⊢;by_cases z0:z=f0
   ·have e0:(z == f0)=true:=by rw [z0];exact beq_self_eq_true _
    rw [e0] at r0 ⊢;rw [F9 fun q=>nf (z0.symm.trans q)]
    exact r0
   ·have e0:(z == f0)=false:=beq_eq_false_iff_ne.mpr z0
    rw [e0] at r0 ⊢;by_cases zf:z=f
    ·rw [Ga zf,zf]
     show jB (([(f,y)]:List (G9×V)).lookup f) (some u);rw [List.lookup_cons_self];exact ry
    ·rw [F9 zf]
     show jB (([(f,y)]:List (G9×V)).lookup z) (mA z);rw [HX,show (z == f)=false from beq_eq_false_iff_ne.mpr zf];exact r0
  ·by_cases zf:z=f
   ·simp [zf]
   ·have:=wA z (fun q=>hz (by show (if z=f then some u else mA z)=none;rw [F9 zf];exact q))
    simp at this;simp [this]
def tXF (C:Gf) (ta:TE) (f:G9):TE:=fun σ H Q=>ta σ H fun x H1=>∃ e dx fs v,x = .ref e/\H1 e=some (ot C e dx)/\H1 dx=some (qa dx fs)/\fs.lookup f=some v/\Q v H1
theorem FX (XC:qU X.K C fI flds) (hf:f∈flds) (he:PE X o ta) (hb:attributeBase o f X.env (eval o X.env)=eval o X.env):PE X (.Attribute o f pos) (tXF C ta f):=by
 intro pins s σ H Q I h;refine AB hb (thn (he pins s σ H _ I h) fun u s1 ⟨x,H1,I1,rx,e,dx,fs,v,ex,ee,ed,l,q⟩=>?_)
 subst ex;obtain rfl:u=Hq e:=rx;obtain ⟨nm,q',N,bs,sn,sub,ab,col,dd,k0,k1,k2,k3,k5,mN,hC,hn,_,_,hng,hnh,hna⟩:=XC.at_ _ I1.kIn;obtain ⟨ob,vs,o1,o2,o3,o4⟩:=(I1.hok e _ ee).1;obtain ⟨mA,nA,rA,wA⟩:=(I1.hok dx _ ed).1;obtain ⟨uv,hu,ru⟩:=jB.some_of (v:=v) (o:=mA f) (by rw [← l];exact rA f);have hh:handedOut uv=pure uv:=by
  have:=uN ru;exact PySem.W.handedOut_of this
 obtain ⟨hp,g,d,tk,os⟩:=s1;exact x_get PySem.F.attr_Exception KC.mro KC.noGetattr hC hn hng hnh (hna f hf) (XC.own f hf) o1 o2 o3 (fun c z=>by rw [o4] at z;cases z) nA hu hh ⟨v,H1,I1.tok _,ru,q⟩
end
theorem Em {M:Model} {A:HB} {E:Gg->Gp->Prop} {s:Gp} {env:L5} {C:Gf} {x:Sem Gg} {Q:Flow->Gp->Prop} (hh:A.handled=none)
  (h:wpAny M A x (fun v s₁=>∃ (e t:Gf) (dx:Option Gf) (nm q:G9) (N:Gf) (bs:List Gg) (sn:List G9) (sub:List Gg) (ab:Bool) (col:Option Bool) (dd:Option Gf) (k0 k1 k2 k3 k5:Option Gg) (newId:String),
   v = .ref e/\s₁.heap.get? C=some (excClassObj nm q C N bs bmE true sn sub ab col dd k0 k1 k2 k3 k5 newId)/\s₁.heap.get? e=some (xRec C t dx)/\E (.ref e) s₁) E s):wpAny M A (raiseStmt env (some x) none) Q E s:=by
 unfold raiseStmt;refine Gm (Iv h (fun v s₁ h₁=>?_) fun _ _ x=>x)
 obtain ⟨e,t,dx,nm,q,N,bs,sn,sub,ab,col,dd,k0,k1,k2,k3,k5,newId,rfl,hC,he,hE⟩:=h₁;have hcB:(Hq C::bmE).contains (.type "BaseException")=true:=by
  rw [List.contains_cons,show bmE.contains (.type "BaseException")=true by decide +kernel,Bool.or_true]
 obtain ⟨hp,g,d,tk,os⟩:=s₁;repeat (first | with_reducible refine Jd he ?_ | with_reducible refine Jd hC ?_ | (with_reducible refine wpAny_isSubtype_exc hC ?_;rw [hcB]) | wp_step)
 exact wpAny_raiseNew_none hh hE
def yW (X:Cx) (C:Gf) (E:XK):Prop:=∀ (pins:List (Gf×Io)) (σ:St) (H:Hp) (s:Gp) (e t dx:Gf),Inv X pins σ H s->H e=some (qH C e t (some dx))->X.s_0.heap.get? e=none->E (.ref C) (some dx) (del H e)->X.xe (.ref e) s
theorem jT {cm:Bool} {P:Hk} {w:Hy} {K:Gh} {mg:G9->Option Gg} {base:GZ} {N:List G9} {qual:G9} {scope:JL} {f:Gf} {cd:Gg} {A:HB} {outer:List L5} {s:Gp} {H:Hp} {E:XK} {C:Gf} :
  yW (cxOf cm (CXF P w) P w K mg base N qual scope f cd A outer s H E) C E:=by
 intro pins σ H1 s1 e t dx I he n hE;have q:s1.heap.get? e=some (xRec C t (some dx)):=(I.hok e _ he).1;exact C0 (T:=none) (I.del he) ⟨⟨_,_,q,rfl,rfl,rfl,rfl⟩,fun t z=>by cases z⟩ n ip (fun t z=>by cases z) hE
section
variable {X:Cx} {C fI:Gf} {flds:List G9} {k:Nat} {fd:GG} {ps:List G9} {spI:Sp} {E:XK} {x:G9} {np cpos pos:Kv} {e:HM} {es:List HM} {t:TA}
def BP (C:Gf) (spI:Sp) (E:XK) (t:TA):TS:=fun D σ H=>t σ H fun vs H1=>vs.length<=sizeLine/\∀ ea t0,H1 ea=none->spI (.ref ea::vs) (upd H1 ea (qH C ea t0 none)) (fun v H2=>v = .non/\∃ dx,H2 ea=some (qH C ea t0 (some dx))/\E (.ref C) (some dx) (del H2 ea)) E0
theorem CO (XC:qU X.K C fI flds) (F:ff X.prog X.w X.K X.mg X.base (CXF X.prog X.w) k fI fd ps spI) (hr:fi (k+1) X.A) (hh:X.A.handled=none) (hg:Gl X x) (hm:X.mg x=some (.ref C)) (hb:jh X.K fd ps []) (th:yW X C E) (ha:PA X (e::es) t)
  (hex:X.ex=[]:=by rfl) (hdb:(x == ("__debug__":G9))=false:=by decide) (he:starEach (e::es) X.env=(false,eval e X.env)::starEach es X.env:=by rfl) (hpl:(backTo cpos (starEach es X.env)).any (·.1)=false:=by rfl) :
  PS X (.Raise (some (.Call (.Name x np) (e::es) [] cpos)) none pos) (BP C spI E t):=by
 intro pins s σ H D I h;rw [arm_exec_Raise];refine Gm (KH ?_);show wpAny _ _ (raiseStmt X.env (some (do let v ← eval (.Call (.Name x np) (e::es) [] cpos) X.env;standAt pos;pure v)) none) _ _ _
 refine Em (C:=C) hh (Gm ?_);refine Iv (Q:=fun v s₁=>∃ (ea t dx:Gf) (H2:Hp),v = .ref ea/\Inv X pins σ H2 s₁/\H2 ea=some (qH C ea t (some dx))/\X.s_0.heap.get? ea=none/\E (.ref C) (some dx) (del H2 ea)) ?_ (fun v s₁ h₁=>Gm (KH (GY ?_))) fun _ _ z=>z
 ·refine IW (mh I hg hm ?_ hdb)
  refine JX (h₀:=X.base) I.ok.mod.kin XC.kp (thn (ha cpos pins s σ H _ I h) fun us s1 ⟨vs,H1,I1,r,hz,q⟩=>⟨I1.kIn,?_⟩) he hpl
  obtain ⟨nm,q',N,bs,sn,sub,ab,col,dd,k0,k1,k2,k3,k5,mN,hC,hn,hi,_⟩:=XC.at_ _ I1.kIn;obtain ⟨oI,o1,o2⟩:=XC.fn _ I1.kIn;obtain ⟨hp,g,d,tk,os⟩:=s1;refine wpAny_call_exc_init PySem.F.excBase_Exception hC hn hi o1 o2 (fun h' ea me=>?_) (by show us.length<=sizeLine;rw [← r.length];exact hz)
  obtain ⟨t0,m1,m2,m3⟩:=me.there;have n1:H1 ea=none:=I1.hok.new me.new;have I2:Inv X pins σ (upd H1 ea (qH C ea t0 none)) ⟨h',g,d,tk,os⟩:=I1.change (h':=h') (t':=tk) [ea] (fun b o _ z=>me.keeps b o z) (fun b hb=>by rw [G7.mp hb];exact .inr me.new)
   (fun b nb=>eK fun z=>nb (by simp [z])) (fun b hb=>by rw [G7.mp hb];exact ⟨_,eC,y8 m1⟩)
  have fr:X.s_0.heap.get? ea=none∨ea∈X.ex:=by
   cases z:X.s_0.heap.get? ea with
   | none=>exact .inl rfl
   | some o =>
    by_cases zx:ea∈X.ex
    ·exact .inr zx
    ·obtain ⟨o',z'⟩:=I1.base.there ea o z zx
     have n:=me.new;rw [z'] at n;cases n
  have hq:=q ea t0 n1;have r2:fu (V.ref ea::vs) (Hq ea::us) := .cons rfl r;have hl:(Hq ea::us++[]).length=ps.length:=by
   rw [Iq,← r2.length];exact F.len _ _ _ _ hq
  have bb:=hb ⟨h',g,d,tk,os⟩ (Hq ea::us) I2.kIn hl;rw [Iq] at bb;refine wpAny_call (KW (F.run _ X.stack _ _ ⟨Hq ea::us,[]⟩ (Hq ea::us) _ _ E0 (hr.make C us []) (I2.env0.make C us []) bb r2 hq) fun r s' hq'=>?_)
  cases r with
  | error ev =>
   obtain ⟨_,_,_,_,_,_,_,_,_,_,_,_,_,_,_,hE⟩:=hq';exact hE.elim
  | ok fl =>
   cases fl with
   | ret u =>
    obtain ⟨v,H',I3,rv,ev,dx,d1,d2⟩:=I2.after hq';subst ev;refine ⟨rv,ea,t0,dx,H',rfl,I3,d1,?_,d2⟩;rcases fr with z | z
    ·exact z
    ·rw [hex] at z
     cases z
   | next=>exact HW hq'
   | brk=>exact HW hq'
   | cont=>exact HW hq'
 ·obtain ⟨ea,t1,dx,H2,rfl,I2,d1,d2,d3⟩:=h₁
  obtain ⟨nm,q',N,bs,sn,sub,ab,col,dd,k0,k1,k2,k3,k5,mN,hC,_⟩:=XC.at_ _ I2.kIn;exact ⟨ea,t1,some dx,nm,q',N,bs,sn,sub,ab,col,dd,k0,k1,k2,k3,k5,_,rfl,hC,(I2.hok ea _ d1).1,th pins σ H2 s₁ ea t1 dx I2 d1 d2 d3⟩
end
abbrev Cx.suite (X:Cx) (ev:Gg):Cx:={ X with A:=X.A.mark (some ev),calm:=false,xe:=fun _ _=>False }
theorem Inv.suite {X:Cx} {pins:List (Gf×Io)} {σ:St} {H:Hp} {s:Gp} (I:Inv X pins σ H s) (ev:Gg):Inv (X.suite ev) pins σ H s :=
 ⟨⟨I.ok.mod,I.ok.kind,I.ok.glob,I.ok.blt,I.ok.above,I.ok.inj,I.ok.has,I.ok.cab,fun z=>(by cases z),I.ok.frames,I.ok.stk,I.ok.exf,I.ok.bs,I.ok.bsz,I.ok.noex,I.ok.exfs,I.ok.funs,I.ok.frf⟩,I.os,I.bare,I.base,I.loc,I.cell,I.free,I.freeC,I.pin,I.hok,I.len⟩
theorem Inv.unsuite {X:Cx} {pins:List (Gf×Io)} {σ:St} {H:Hp} {s:Gp} {ev:Gg} (ok:X.Ok) (I:Inv (X.suite ev) pins σ H s):Inv X pins σ H s :=
 ⟨ok,I.os,I.bare,I.base,I.loc,I.cell,I.free,I.freeC,I.pin,I.hok,I.len⟩
section
variable {X:Cx} {k:Nat} {f C fI:Gf} {flds:List G9} {fd:GG} {ps:List G9} {sp:Sp} {E:XK} {x:G9} {np cpos pos:Kv} {e:HM} {es:List HM} {t:TA}
theorem Ea {pins:List (Gf×Io)} {σ:St} {H:Hp} {s:Gp} {Q:VK} {Z:Gg->Gp->Prop} (F:ff X.prog X.w X.K X.mg X.base (CXF X.prog X.w) k f fd ps sp) (hr:fi k X.A) (hg:Gl X x) (hm:X.mg x=some (.ref f)) (hk:HL X.K (.ref f)=true) (hb:jh X.K fd ps [])
  (ha:PA X.nox (e::es) t) (I:Inv X pins σ H s) (h:t σ H fun vs H1=>sp vs H1 Q E) (hz:∀ s1 H1 ev s',Inv X pins σ H1 s1->CXF X.prog X.w X.stack H1 s1 E ev s'->Z ev s')
  (hdb:(x == ("__debug__":G9))=false:=by decide) (he:starEach (e::es) X.env=(false,eval e X.env)::starEach es X.env:=by rfl) (hpl:(backTo cpos (starEach es X.env)).any (·.1)=false:=by rfl) :
  wpAny (model X.prog X.w) X.A (eval (.Call (.Name x np) (e::es) [] cpos) X.env) (EP X pins σ Q) Z s:=by
 refine IW (mh I hg hm ?_ hdb);refine JX (h₀:=X.base) I.ok.mod.kin hk (Iv (ha cpos pins s σ H _ (I.wish _) h) (fun us s1 ⟨vs,H1,I1,r,q⟩=>⟨I1.unwish.kIn,?_⟩) fun _ _ z=>HW z) he hpl
 have I1:=I1.unwish;have hl:(us++[]).length=ps.length:=by
  rw [Iq,← r.length];exact F.len _ _ _ _ q
 have bb:=hb s1 us I1.kIn hl;rw [Iq] at bb;refine wpAny_call (KW (F.run X.A X.stack s1 H1 ⟨us,[]⟩ us vs Q E hr I1.env0 bb r q) fun r s' hq=>?_)
 cases r with
 | error ev=>exact hz s1 H1 ev s' I1 hq
 | ok fl =>
  cases fl with
  | ret u=>exact I1.after hq
  | next=>exact HW hq
  | brk=>exact HW hq
  | cont=>exact HW hq
theorem Inv.flown {pins:List (Gf×Io)} {σ:St} {H:Hp} {s:Gp} {h':GZ} {ea Ce dx:Gf} {T:Option Gf} {fl:Gg} (I:Inv X pins σ H s) (F:Fly s.heap ea T Ce dx fl) (p:Eh (frs X.stack) ea T s.heap h') (ne:X.s_0.heap.get? ea=none) (he:H ea=none)
  (nT:∀ t,T=some t->X.s_0.heap.get? t=none/\H t=none) (np:∀ q∈X.pn++pins,q.1≠ea/\T≠some q.1):Inv X pins σ H { s with heap:=h' }:=by
 obtain ⟨oe,vs,f1,f2,f3,f4,f5⟩:=F.rc;have rcd:∀ b o,s.heap.get? b=some o->(∀ ws,o.data ≠ .fields ws)->b≠ea/\T≠some b:=fun b o q nf=>by
  refine ⟨fun z=>?_,fun z=>?_⟩
  ·rw [z,f1] at q
   cases q;exact nf vs f4
  ·obtain ⟨_,oT,ts,g1,g2,_⟩:=F.tr b z
   rw [g1] at q;cases q;exact nf ts g2
 have old:∀ b o,X.s_0.heap.get? b=some o->b≠ea/\T≠some b:=fun b o q=>⟨fun z=>(by rw [z,ne] at q;cases q),fun z=>(by rw [(nT b z).1] at q;cases q)⟩
 have cellK:∀ c v,s.heap.IsCell c v->h'.IsCell c v:=fun c v ⟨o,ho,hd⟩=>by
  obtain ⟨r1,r2⟩:=rcd c o ho (fun ws z=>by rw [hd] at z;cases z)
  obtain ⟨sl,q⟩:=p.slot c o ho r1 r2;exact ⟨_,q,hd⟩
 have nst:∀ b o,X.s_0.heap.get? b=some o->b∉X.fs->b∉frs X.stack:=fun b o q nb z=>by
  rcases Gu.mp (I.stkSub b z) with z | z
  ·exact IL _ (Ho (Ha (z▸q)) I.ok.above)
  ·exact nb z
 refine ⟨I.ok,I.os,I.bare,⟨fun b o q n hb hx=>?_,fun b o q n hb hx=>?_,I.base.free,fun b o q hx=>?_,I.base.tups,I.base.frzs,I.base.tbls⟩,?_,fun y c q=>?_,I.free,I.freeC,fun q hq=>?_,?_,I.len⟩
 ·exact p.keep b o (I.base.keep b o q n hb hx) (old b o q).1 (old b o q).2 (nst b o q hb)
 ·obtain ⟨sl,g⟩:=I.base.slot b o q n hb hx
  obtain ⟨sl',g'⟩:=p.slot b _ g (old b o q).1 (old b o q).2;exact ⟨sl',g'⟩
 ·obtain ⟨o',g⟩:=I.base.there b o q hx
  obtain ⟨sl',g'⟩:=p.slot b _ g (old b o q).1 (old b o q).2;exact ⟨_,g'⟩
 ·obtain ⟨m,⟨o,es,ep,ho,hd,r⟩,hl⟩:=I.loc
  obtain ⟨r1,r2⟩:=rcd _ o ho (fun ws z=>by rw [hd] at z;cases z)
  obtain ⟨sl,g⟩:=p.slot _ o ho r1 r2;refine ⟨m,⟨_,es,ep,g,hd,r⟩,fun i y v e1 e2 e3=>?_⟩
  obtain ⟨u,ru,lk⟩:=hl i y v e1 e2 e3;refine ⟨u,ru,?_⟩;rcases lk with lk | ⟨k1,c,k2,k3⟩
  ·exact .inl lk
  ·exact .inr ⟨k1,c,k2,cellK c _ k3⟩
 ·obtain ⟨v,z⟩:=I.cell y c q
  exact ⟨v,cellK c v z⟩
 ·obtain ⟨p1,p2,p3,p4,p5⟩:=I.pin q hq
  exact ⟨p.keep q.1 q.2 p1 (np q hq).1 (np q hq).2 fun z=>(Gu.mp (I.stkSub q.1 z)).elim p3 p4,p2,p3,p4,p5⟩
 ·exact I.hok.stays fun b o hn q=>p.keep b o q (fun z=>hn (by rw [z];exact he)) (fun z=>hn (nT b z).2) fun z=>hn (I.stkFree b z)
theorem Inv.hold {pins:List (Gf×Io)} {σ:St} {H:Hp} {s:Gp} {ea Ce dx:Gf} {T:Option Gf} {fl:Gg} (I:Inv X pins σ H s) (F:Fly s.heap ea T Ce dx fl) (ne:X.s_0.heap.get? ea=none) (he:H ea=none) (np:∀ q∈X.pn++pins,q.1≠ea):Inv X pins σ (upd H ea (ot Ce ea dx)) s:=by
 obtain ⟨oe,vs,f1,f2,f3,f4,f5⟩:=F.rc;have nu:∀ b o,s.heap.get? b=some o->(∀ ws,o.data ≠ .fields ws)->b≠ea:=fun b o q nf z=>by
  rw [z,f1] at q;cases q;exact nf vs f4
 have g:∀ b,b≠ea->H b=none->upd H ea (ot Ce ea dx) b=none:=fun b nb q=>by rw [eK nb];exact q
 refine ⟨I.ok,I.os,I.bare,⟨I.base.keep,I.base.slot,fun b o q n hx=>?_,I.base.there,fun b xs q=>?_,fun b o v q=>?_,fun b ps q=>?_⟩,I.loc,I.cell,?_,fun y c q=>?_,fun q hq=>?_,fun b o q=>?_,I.len⟩
 ·exact g b (fun z=>by rw [z,ne] at q;cases q) (I.base.free b o q n hx)
 ·have:=I.base.tups b xs q
  rw [eK (eW this he)];exact this
 ·have:=I.base.frzs b o v q
  rw [eK (eW this he)];exact this
 ·obtain ⟨m,z⟩:=I.base.tbls b ps q
  exact ⟨m,by rw [eK (eW z he)];exact z⟩
 ·obtain ⟨m,⟨o,es,ep,ho,hd,r⟩,hl⟩:=I.loc
  exact g _ (nu _ o ho fun ws z=>by rw [hd] at z;cases z) I.free
 ·obtain ⟨v,o,ho,hd⟩:=I.cell y c q
  exact g _ (nu _ o ho fun ws z=>by rw [hd] at z;cases z) (I.freeC y c q)
 ·obtain ⟨p1,p2,p3⟩:=I.pin q hq
  exact ⟨p1,g _ (np q hq) p2,p3⟩
 ·by_cases z:b=ea
  ·rw [z,eC] at q
   cases q;rw [z];exact BJ f1 f2 f3 f4
  ·rw [eK z] at q
   exact (I.hok b o q).stay (fun _ _ _ q=>q) (fun c q=>by rw [eK (eW q he)];exact q) fun c xs q=>by rw [eK (eW q he)];exact q
theorem Inv.ungo {pins:List (Gf×Io)} {σ:St} {H:Hp} {s:Gp} {j:Nat} {n:G9} {hpos:Kv} {M:Model} {A:HB} {Z:Gg->Gp->Prop} {Q:Unit->Gp->Prop} (I:Inv X pins σ H s) (hN:X.N.Nodup) (hj:X.N[j]?=some n) (hl:X.env.scope.names.lookup n=some .local)
  (h:∀ s',Inv X pins (σ.set j none) H s'->Q () s'):wpAny M A (do bindName X.env n .none;unbindBehindTheSuite X.env n hpos) Q Z s:=by
 obtain ⟨m,hn,lk⟩:=id I.loc;have hcls:(X.env.scope.kind == .class || (X.env.scope.kind == .module && X.env.locals != X.env.globals))=false:=by rw [I.ok.kind];rfl
 refine wpAny_nameGoes_keeps hl hn hcls fun h' v n' sb=>h _ ?_
 obtain ⟨oL,_,_,hoL,_⟩:=id hn;have low:∀ b o,X.s_0.heap.get? b=some o->b≠X.env.locals:=fun b o q=>Hu (Ho (Ha q) I.ok.above)
 refine ⟨I.ok,I.os,I.bare,⟨fun b o q n hb hx=>(sb.2 b (low b o q)).trans (I.base.keep b o q n hb hx),fun b o q n hb hx=>?_,I.base.free,fun b o q hx=>?_,I.base.tups,I.base.frzs,I.base.tbls⟩,⟨_,n',fun i y v' e1 e2 e3=>?_⟩,fun y c q=>?_,I.free,I.freeC,fun p hp=>?_,fun b o q=>?_,by simpa using I.len⟩
 ·obtain ⟨sl,g⟩:=I.base.slot b o q n hb hx
  exact ⟨sl,(sb.2 b (low b o q)).trans g⟩
 ·obtain ⟨o',g⟩:=I.base.there b o q hx
  exact ⟨o',(sb.2 b (low b o q)).trans g⟩
 ·by_cases z:i=j
  ·subst z
   have hi:i<σ.length:=by rw [I.len];exact (Gj.mp e1).1
   rw [Je hi] at e2;cases e2
  ·rw [Jk (HA z)] at e2
   obtain ⟨u,ru,q⟩:=lk i y v' e1 e2 e3;refine ⟨u,ru,?_⟩;rcases q with ⟨k1,k2⟩ | ⟨k1,c,k2,k3⟩
   ·have yn:y≠n:=fun q=>z (pC hN e1 (q▸hj))
    exact .inl ⟨k1,by simp [yn,k2]⟩
   ·exact .inr ⟨k1,c,k2,k3.sameBut sb (I.cne y c k2)⟩
 ·obtain ⟨w',z⟩:=I.cell y c q
  exact ⟨w',z.sameBut sb (I.cne y c q)⟩
 ·obtain ⟨p1,p2,p3,p4,p5⟩:=I.pin p hp
  exact ⟨(sb.2 p.1 p3).trans p1,p2,p3,p4,p5⟩
 ·refine (I.hok b o q).stay (fun c u hc g=>(sb.2 c ?_).trans g) (fun _ g=>g) fun _ _ g=>g
  rintro rfl
  rcases hc with rfl | hc
  ·rw [I.free] at q;cases q
  ·rw [I.free] at hc;cases hc
end
section
variable {X:Cx} {k:Nat} {f C fI:Gf} {flds:List G9} {fd:GG} {ps:List G9} {sp:Sp} {x y cn:G9} {np cpos apos ypos pc hpos pos:Kv} {e:HM} {es:List HM} {t:TA} {i:Nat} {b0:HH} {suite:List HH} {ts:TS}
theorem F0 {pins:List (Gf×Io)} {σ:St} {H1:Hp} {s1 s':Gp} {ev:Gg} {E:XK} {L:Gf} {Q:Flow->Gp->Prop} {nm:Option G9} (XC:qU X.K C fI flds) (hgc:Gl X cn) (hmc:X.mg cn=some (.ref C)) (hst:X.stack=X.env::X.outer) (hL:X.env.frame=some L) (hex:X.ex=[])
  (I:Inv X pins σ H1 s1) (cx:CXF X.prog X.w X.stack H1 s1 E ev s') (hE:∀ cls d H2,E cls d H2->cls = .ref C)
  (go:∀ (ea t dx:Gf) (H2:Hp) (s3:Gp),E (.ref C) (some dx) H2->H2 ea=none->Inv X pins σ (upd H2 ea (ot C ea dx)) s3->Inv X pins σ H2 s3->Fly s3.heap ea (some t) C dx .none->X.s_0.heap.get? ea=none->X.s_0.heap.get? t=none->H2 t=none->(∀ q∈X.pn++pins,q.1≠ea/\(some t:Option Gf)≠some q.1) ->
   codeAny (model X.prog X.w) (X.A.mark (some (.ref ea))) (.handlers (.ref ea) [.ExceptHandler none nm (b0::suite) hpos] X.env) (fun r s₂=>match r with
     | .ok f=>(match nm with
      | none=>Q f s₂
      | some n=>wpAny (model X.prog X.w) X.A (do bindName X.env n .none;unbindBehindTheSuite X.env n hpos) (fun _ s₃=>Q f s₃) X.xe s₂)
     | .error z=>cameBackBy (model X.prog X.w) X.A X.env X.xe z s₂) s3)
  (hdb:(cn == ("__debug__":G9))=false:=by decide) :
  wpAny (model X.prog X.w) X.A (noteFrame ev X.env) (fun _ s₂=>wpAny (model X.prog X.w) X.A (setFlight ev none) (fun _ s₃=>wpAny (model X.prog X.w) X.A (handleBy ev X.env [.ExceptHandler (some (.Name cn pc)) nm (b0::suite) hpos]) Q X.xe s₃) X.xe s₂) X.xe s':=by
 obtain ⟨ea,t,Ce,dx,H',rfl,hos,hb,un,hok,ne,he,nt,ht,fl,he2⟩:=cx;have ec:=hE _ _ _ he2;cases ec;have I':Inv X pins σ H' s':=I.call' hos un hok hb (ch:=[]) fun b z=>absurd z (by simp)
 have old:∀ b,s1.heap.get? b=none->X.s_0.heap.get? b=none:=fun b q=>by
  cases z:X.s_0.heap.get? b with
  | none=>rfl
  | some o =>
   obtain ⟨o',z'⟩:=I.base.there b o z (by rw [hex];simp);rw [q] at z';cases z'
 have np:∀ q∈X.pn++pins,q.1≠ea/\(some t:Option Gf)≠some q.1:=fun q hq=>by
  have p1:=(I.pin q hq).1;exact ⟨fun z=>(by rw [z,ne] at p1;cases p1),fun z=>(by rw [← Hd z,nt] at p1;cases p1)⟩
 have fs:=I'.stack;have fr:=I'.ok.frames;rw [hst] at fs fr;refine xA (base:=X.base) fr fs hL fl fun h1 t1 m1 F1 p1=>?_
 rw [← hst] at p1;have I1:Inv X pins σ H' { s' with heap:=h1 }:=I'.flown fl p1 (old ea ne) he (fun b q=>by cases q;exact ⟨old t nt,ht⟩) np
 have o1:X.s_0.heap.get? t1=none:=by
  cases z:X.s_0.heap.get? t1 with
  | none=>rfl
  | some o =>
   obtain ⟨o',z'⟩:=I'.base.there t1 o z (by rw [hex];simp);rw [m1] at z';cases z'
 have h1t:H' t1=none:=I'.hok.new m1;have np1:∀ q∈X.pn++pins,q.1≠ea/\(some t1:Option Gf)≠some q.1:=fun q hq=>by
  have p1:=(I'.pin q hq).1;exact ⟨(np q hq).1,fun z=>(by rw [← Hd z,m1] at p1;cases p1)⟩
 refine pP (s:={ s' with heap:=h1 }) F1 fun h2 F2 k2=>?_
 have I2:Inv X pins σ H' { s' with heap:=h2 }:=I1.flown F1 ⟨fun b o q _ z _=>k2 b o (fun g=>z (by rw [g])) q,fun b o q _ z=>⟨o.slots,k2 b o (fun g=>z (by rw [g])) q⟩⟩ (old ea ne) he (fun b q=>by cases q;exact ⟨o1,h1t⟩) np1
 obtain ⟨nm',q',N,bs,sn,sub,ab,col,dd,k0,k1',k2',k3,k5,mN,hC,_⟩:=XC.at_ _ I2.kIn;obtain ⟨oe,vs,f1,f2,f3,f4,f5⟩:=F2.rc;have hbase:bmE.contains (.type "BaseException")=true:=by decide +kernel
 refine wpAny_handleBy_cons (codeAny_handlers_test (mh (X:=X.suite (.ref ea)) (I2.suite (.ref ea)) hgc hmc ?_ hdb)) (by intro q;cases q);refine wpAny_excMatches_sub_self (h:=h2) hC f1 f2 hbase ?_;exact go ea t1 dx H' _ he2 he (I2.hold F2 (old ea ne) he fun q hq=>(np1 q hq).1) I2 F2 (old ea ne) o1 h1t np1
def tTry (C:Gf) (i:Nat) (t:TA) (sp:Sp) (ts:TS):TS:=fun D σ H=>t σ H fun vs H1=>sp vs H1 (fun v H2=>D.nx (σ.set i (some v)) H2) (fun cls d H2=>cls = .ref C/\∃ dx,d=some dx/\∀ ea,H2 ea=none->ts D σ (upd H2 ea (ot C ea dx)))
theorem ps_try {L:Gf} (XC:qU X.K C fI flds) (hgc:Gl X cn) (hmc:X.mg cn=some (.ref C)) (F:ff X.prog X.w X.K X.mg X.base (CXF X.prog X.w) k f fd ps sp) (hr:fi k X.A) (hg:Gl X x) (hm:X.mg x=some (.ref f)) (hk:HL X.K (.ref f)=true) (hb:jh X.K fd ps [])
  (ha:PA X.nox (e::es) t) (hN:X.N.Nodup) (hi:X.N[i]?=some y) (hy:Loc X.env.scope y) (hs:∀ ev,PSs (X.suite ev) (b0::suite) ts) (hst:X.stack=X.env::X.outer) (hL:X.env.frame=some L) (hex:X.ex=[])
  (hsw:swapsWith (.Call (.Name x np) (e::es) [] cpos) (some (.Name y ypos)) apos.line X.env=pure false:=by rfl) (hfn:X.fn y=true∨X.env.scope.names.lookup y=some .local:=by first | exact .inl rfl | exact .inr rfl | assumption)
  (hdb:(x == ("__debug__":G9))=false:=by decide) (hdc:(cn == ("__debug__":G9))=false:=by decide) (he:starEach (e::es) X.env=(false,eval e X.env)::starEach es X.env:=by rfl) (hpl:(backTo cpos (starEach es X.env)).any (·.1)=false:=by rfl) :
  PS X (.Try [.Assign [.Name y ypos] (.Call (.Name x np) (e::es) [] cpos) apos] [.ExceptHandler (some (.Name cn pc)) none (b0::suite) hpos] [] [] pos) (tTry C i t sp ts):=by
 intro pins s σ H D I h;refine wpAny_Try_except (Lr (wpAny_Assign_Name ?_ hsw));refine Iv (Ea (x:=x) F hr hg hm hk hb ha I h (Z:=fun e s₁=>wpAny (model X.prog X.w) X.A (noteFrame e X.env) (fun _ s₂=>wpAny (model X.prog X.w) X.A (setFlight e none) (fun _ s₃=>wpAny (model X.prog X.w) X.A (handleBy e X.env [.ExceptHandler (some (.Name cn pc)) none (b0::suite) hpos]) (SP X pins D) X.xe s₃) X.xe s₂) X.xe s₁)
  (fun s1 H1 ev s' I1 cx=>?_) hdb he hpl) (fun v s1 ⟨vv,H2,I2,r2,q2⟩=>?_) fun _ _ z=>z
 ·refine F0 XC hgc hmc hst hL hex I1 cx (fun cls d H2 z=>z.1) (fun ea tb dx H2 s3 hE he1 I3 I2 F2 n1 n2 n3 np=>?_) hdc
  obtain ⟨_,dx',e1,q⟩:=hE;cases e1;refine codeAny_handlers_suite ?_;refine pP (s:=s3) F2 fun h4 F4 k4=>?_
  have I4:Inv X pins σ H2 { s3 with heap:=h4 }:=I2.flown F2 ⟨fun b o q _ z _=>k4 b o (fun g=>z (by rw [g])) q,fun b o q _ z=>⟨o.slots,k4 b o (fun g=>z (by rw [g])) q⟩⟩ n1 he1 (fun b q=>by cases q;exact ⟨n2,n3⟩) np
  have I5:=I4.hold F4 n1 he1 fun q hq=>(np q hq).1
  refine Iv (hs (.ref ea) pins _ σ _ D (I5.suite _) (q ea he1)) (fun fl s4 z=>?_) fun _ _ z=>HW z
  cases fl with
  | next=>obtain ⟨σ',H',I',g⟩:=z;exact ⟨σ',H',I'.unsuite I.ok,g⟩
  | brk=>obtain ⟨σ',H',I',g⟩:=z;exact ⟨σ',H',I'.unsuite I.ok,g⟩
  | cont=>obtain ⟨σ',H',I',g⟩:=z;exact ⟨σ',H',I'.unsuite I.ok,g⟩
  | ret u=>obtain ⟨v,σ',H',I',r,g⟩:=z;exact ⟨v,σ',H',I'.unsuite I.ok,r,g⟩
 ·refine lu I2 hN hi hy r2 (fun s3 I3=>Jn (Jn ⟨_,H2,I3,q2⟩)) hfn
def tTryAs (C:Gf) (i j:Nat) (t:TA) (sp:Sp) (ts:TS):TS:=fun D σ H=>t σ H fun vs H1=>sp vs H1 (fun v H2=>D.nx (σ.set i (some v)) H2)
 (fun cls d H2=>cls = .ref C/\∃ dx,d=some dx/\∀ ea,H2 ea=none->ts { nx:=fun σ2 H3=>D.nx (σ2.set j none) H3,rt:=D.rt,bk:=fun σ2 H3=>D.bk (σ2.set j none) H3,ct:=fun σ2 H3=>D.ct (σ2.set j none) H3 } (σ.set j (some (.ref ea))) (upd H2 ea (ot C ea dx)))
theorem wY {L:Gf} {j:Nat} {n:G9} (XC:qU X.K C fI flds) (hgc:Gl X cn) (hmc:X.mg cn=some (.ref C)) (F:ff X.prog X.w X.K X.mg X.base (CXF X.prog X.w) k f fd ps sp) (hr:fi k X.A) (hg:Gl X x) (hm:X.mg x=some (.ref f)) (hk:HL X.K (.ref f)=true) (hb:jh X.K fd ps [])
  (ha:PA X.nox (e::es) t) (hN:X.N.Nodup) (hi:X.N[i]?=some y) (hy:Loc X.env.scope y) (hj:X.N[j]?=some n) (hn:X.env.scope.names.lookup n=some .local) (hs:∀ ev,PSs (X.suite ev) (b0::suite) ts) (hst:X.stack=X.env::X.outer) (hL:X.env.frame=some L) (hex:X.ex=[])
  (hsw:swapsWith (.Call (.Name x np) (e::es) [] cpos) (some (.Name y ypos)) apos.line X.env=pure false:=by rfl) (hfn:X.fn y=true∨X.env.scope.names.lookup y=some .local:=by first | exact .inl rfl | exact .inr rfl | assumption)
  (hdb:(x == ("__debug__":G9))=false:=by decide) (hdc:(cn == ("__debug__":G9))=false:=by decide) (he:starEach (e::es) X.env=(false,eval e X.env)::starEach es X.env:=by rfl) (hpl:(backTo cpos (starEach es X.env)).any (·.1)=false:=by rfl) :
  PS X (.Try [.Assign [.Name y ypos] (.Call (.Name x np) (e::es) [] cpos) apos] [.ExceptHandler (some (.Name cn pc)) (some n) (b0::suite) hpos] [] [] pos) (tTryAs C i j t sp ts):=by
 intro pins s σ H D I h;refine wpAny_Try_except (Lr (wpAny_Assign_Name ?_ hsw));refine Iv (Ea (x:=x) F hr hg hm hk hb ha I h (Z:=fun e s₁=>wpAny (model X.prog X.w) X.A (noteFrame e X.env) (fun _ s₂=>wpAny (model X.prog X.w) X.A (setFlight e none) (fun _ s₃=>wpAny (model X.prog X.w) X.A (handleBy e X.env [.ExceptHandler (some (.Name cn pc)) (some n) (b0::suite) hpos]) (SP X pins D) X.xe s₃) X.xe s₂) X.xe s₁)
  (fun s1 H1 ev s' I1 cx=>?_) hdb he hpl) (fun v s1 ⟨vv,H2,I2,r2,q2⟩=>?_) fun _ _ z=>z
 ·refine F0 XC hgc hmc hst hL hex I1 cx (fun cls d H2 z=>z.1) (fun ea tb dx H2 s3 hE he1 I3 I2 F2 n1 n2 n3 np=>?_) hdc
  obtain ⟨_,dx',e1,q⟩:=hE;cases e1;refine codeAny_handlers_suite_as ?_;refine pP (s:=s3) F2 fun h4 F4 k4=>?_
  have I4:Inv X pins σ H2 { s3 with heap:=h4 }:=I2.flown F2 ⟨fun b o q _ z _=>k4 b o (fun g=>z (by rw [g])) q,fun b o q _ z=>⟨o.slots,k4 b o (fun g=>z (by rw [g])) q⟩⟩ n1 he1 (fun b q=>by cases q;exact ⟨n2,n3⟩) np
  have I5:=I4.hold F4 n1 he1 fun q hq=>(np q hq).1
  refine lu (v:=V.ref ea) I5 hN hj (.inl hn) rfl (fun s6 I6=>?_) (.inr hn)
  refine Iv (hs (.ref ea) pins _ _ _ _ (I6.suite _) (q ea he1)) (fun fl s7 z=>?_) fun _ _ z=>HW z
  cases fl with
  | next=>obtain ⟨σ',H',I',g⟩:=z;exact (I'.unsuite I.ok).ungo hN hj hn fun s8 I8=>⟨_,H',I8,g⟩
  | brk=>obtain ⟨σ',H',I',g⟩:=z;exact (I'.unsuite I.ok).ungo hN hj hn fun s8 I8=>⟨_,H',I8,g⟩
  | cont=>obtain ⟨σ',H',I',g⟩:=z;exact (I'.unsuite I.ok).ungo hN hj hn fun s8 I8=>⟨_,H',I8,g⟩
  | ret u=>obtain ⟨v,σ',H',I',r,g⟩:=z;exact (I'.unsuite I.ok).ungo hN hj hn fun s8 I8=>⟨v,_,H',I8,r,g⟩
 ·refine lu I2 hN hi hy r2 (fun s3 I3=>Jn (Jn ⟨_,H2,I3,q2⟩)) hfn
end
theorem DT {K:Gh} {a:Gf} {xs:List V} {g:TG} {tb:TS} {D:tI} {σ:St} {H:Hp} (Pv:Nat->St->Hp->Prop) (h0:Pv 0 σ H) (hl:∀ i σ H,i<=xs.length->Pv i σ H->SqL K H a xs)
  (hs:∀ i x σ H T,xs[i]?=some x->Pv i σ H->H T=none->g (.ref T) σ (upd H T (.tup [.int (i:Nat),x])) fun σ2 H2=>tb { D with nx:=Pv (i+1),ct:=Pv (i+1),bk:=D.nx } σ2 H2) (hd:∀ σ H,Pv xs.length σ H->D.nx σ H) :
  ∃ W:Nat->Nat->St->Hp->Prop,(∃ m,W 0 m σ H)/\∀ i m σ H,W i m σ H ->
   ((Ite K a).stop i H/\D.nx σ H)∨((Ite K a).go i H/\∃ N:St->Hp->Prop,(∀ σ' H',N σ' H'->∃ m',m'<m/\W (i+1) m' σ' H')/\∀ x H',(Ite K a).yld i H x H'->g x σ H' fun σ2 H2=>tb { D with nx:=N,ct:=N,bk:=D.nx } σ2 H2):=by
 refine ⟨fun i m σ H=>m=xs.length-i/\i<=xs.length/\Pv i σ H,⟨xs.length,by simp,G5 _,h0⟩,?_⟩
 rintro i m σ H ⟨rfl,hi,p⟩
 have q:=hl i σ H hi p;by_cases hlt:i<xs.length
 ·refine .inr ⟨⟨xs,xs[i],q,by simp [hlt]⟩,Pv (i+1),fun σ' H' p'=>⟨xs.length-(i+1),by omega,rfl,hlt,p'⟩,fun x H' y=>?_⟩
  obtain ⟨T,z,rfl,nT,rfl,y⟩:=y;exact hs i z σ H T (y xs q) p nT
 ·have e:i=xs.length:=by omega
  subst e;exact .inl ⟨⟨xs,q,Go _⟩,hd σ H p⟩
theorem vP {K:Gh} {a:Gf} {xs:List V} {g:TG} {tb:TS} {D:tI} {σ:St} {H:Hp} (Pv:Nat->St->Hp->Prop) (h0:Pv 0 σ H) (hl:∀ i σ H,i<=xs.length->Pv i σ H->SqL K H a xs)
  (hs:∀ i x σ H,i<xs.length->xs[xs.length-1-i]?=some x->Pv i σ H->g x σ H fun σ2 H2=>tb { D with nx:=Pv (i+1),ct:=Pv (i+1),bk:=D.nx } σ2 H2) (hd:∀ σ H,Pv xs.length σ H->D.nx σ H) :
  ∃ W:Nat->Nat->St->Hp->Prop,(∃ m,W 0 m σ H)/\∀ i m σ H,W i m σ H ->
   ((Itv K a xs.length).stop i H/\D.nx σ H)∨((Itv K a xs.length).go i H/\∃ N:St->Hp->Prop,(∀ σ' H',N σ' H'->∃ m',m'<m/\W (i+1) m' σ' H')/\∀ x H',(Itv K a xs.length).yld i H x H'->g x σ H' fun σ2 H2=>tb { D with nx:=N,ct:=N,bk:=D.nx } σ2 H2):=by
 refine ⟨fun i m σ H=>m=xs.length-i/\i<=xs.length/\Pv i σ H,⟨xs.length,by simp,G5 _,h0⟩,?_⟩
 rintro i m σ H ⟨rfl,hi,p⟩
 have q:=hl i σ H hi p;by_cases hlt:i<xs.length
 ·have hj:xs.length-1-i<xs.length:=by omega
  refine .inr ⟨⟨hlt,xs,xs[xs.length-1-i],q,by simp [hj]⟩,Pv (i+1),fun σ' H' p'=>⟨xs.length-(i+1),by omega,rfl,hlt,p'⟩,fun x H' y=>?_⟩
  obtain ⟨e,y⟩:=y;subst e;exact hs i x σ _ hlt (y xs q) p
 ·have e:i=xs.length:=by omega
  subst e;exact .inl ⟨Go _,hd σ H p⟩
structure Fn (P:Hk) (w:Hy) (K:Gh) (mg:G9->Option Gg) (base:GZ) (k:Nat) (x:G9) (ps:List G9) (sp:Sp):Prop where
 ex:∃ (f:Gf) (fd:GG),mg x=some (.ref f)/\HL K (.ref f)=true/\jh K fd ps []/\ff P w K mg base (CXF P w) k f fd ps sp
structure Md (P:Hk) (w:Hy) (K:Gh) (mg:G9->Option Gg) (base:GZ) (k:Nat) (C:Gf) (x:G9) (ps:List G9) (sp:Sp):Prop where
 ex:∃ (f:Gf) (fd:GG),Ei K C x f/\jh K fd ps []/\ff P w K mg base (CXF P w) k f fd ps sp
structure Cl (P:Hk) (w:Hy) (K:Gh) (mg:G9->Option Gg) (base:GZ) (k:Nat) (C:Gf) (x:G9) (ps:List G9) (sp:Sp):Prop where
 at_:mg x=some (.ref C)
 ex:∃ (f:Gf) (fd:GG),Mk K C f/\jh K fd ps []/\ff P w K mg base (CXF P w) k f fd ps sp
section
variable {X:Cx} {k:Nat} {C:Gf} {ps:List G9} {sp:Sp} {E:XK} {x m:G9} {p pos apos:Kv} {e o:HM} {es:List HM} {ta:TE} {t:TA}
theorem eV (F:Fn X.prog X.w X.K X.mg X.base k x ps sp) (hr:fi k X.A) (hg:Gl X x) (hx:jd (CXF X.prog X.w) X E) (ha:PA X (e::es) t)
  (hdb:(x == ("__debug__":G9))=false:=by decide) (he:starEach (e::es) X.env=(false,eval e X.env)::starEach es X.env:=by rfl) (hpl:(backTo pos (starEach es X.env)).any (·.1)=false:=by rfl) :
  PE X (.Call (.Name x p) (e::es) [] pos) (FQ sp [] E t):=by
 obtain ⟨f,fd,h1,h2,h3,h4⟩:=F.ex;exact EY h4 hr hg h1 h2 h3 .nil hx ha hdb he hpl
theorem f6 {pl:Sem Bool} (he:PE X o ta) (c:Cls X.K C) (F:Md X.prog X.w X.K X.mg X.base k C m ps sp) (hr:fi k X.A) (hx:jd (CXF X.prog X.w) X E) (ha:PA X (e::es) t)
  (hst:starEach (e::es) X.env=(false,eval e X.env)::starEach es X.env:=by rfl) (hpl:(backTo pos (starEach es X.env)).any (·.1)=false:=by rfl)
  (ht:eval (.Call (.Attribute o m apos) (e::es) [] pos) X.env=(do
   let ov ← eval o X.env
   standAt apos.atName
   let (f,first) ← holding [ov] (getMethod ov m pl)
   callWith pos f first (backTo pos (starEach (e::es) X.env)) (backToKw pos (keywordEach [] X.env))):=by rfl) :
  PE X (.Call (.Attribute o m apos) (e::es) [] pos) (zg C m sp [] E ta t):=by
 obtain ⟨f,fd,h1,h3,h4⟩:=F.ex;exact EU he c h1 h4 hr h3 .nil hx ha hst hpl ht
theorem iF {pl:Sem Bool} (he:PE X o ta) (c:Cls X.K C) (F:Md X.prog X.w X.K X.mg X.base k C m ps sp) (hr:fi k X.A) (hx:jd (CXF X.prog X.w) X E)
  (ht:eval (.Call (.Attribute o m apos) [] [] pos) X.env=(do
   let ov ← eval o X.env
   standAt apos.atName
   let (f,first) ← holding [ov] (getMethod ov m pl)
   callWith pos f first (backTo pos (starEach [] X.env)) (backToKw pos (keywordEach [] X.env))):=by rfl) :
  PE X (.Call (.Attribute o m apos) [] [] pos) (zg C m sp [] E ta wv):=by
 obtain ⟨f,fd,h1,h3,h4⟩:=F.ex;exact CU he c h1 h4 hr h3 .nil hx ht
theorem uE (F:Cl X.prog X.w X.K X.mg X.base k C x ps sp) (hr:fi (k+1) X.A) (hg:Gl X x) (hx:jd (CXF X.prog X.w) X E) (ha:PA X (e::es) t)
  (hdb:(x == ("__debug__":G9))=false:=by decide) (he:starEach (e::es) X.env=(false,eval e X.env)::starEach es X.env:=by rfl) (hpl:(backTo pos (starEach es X.env)).any (·.1)=false:=by rfl) :
  PE X (.Call (.Name x p) (e::es) [] pos) (zh C sp [] E t):=by
 obtain ⟨f,fd,h1,h3,h4⟩:=F.ex;exact EW h1 h4 hr hg F.at_ h3 .nil hx ha hdb he hpl
theorem vH (F:Cl X.prog X.w X.K X.mg X.base k C x ps sp) (hr:fi (k+1) X.A) (hg:Gl X x) (hx:jd (CXF X.prog X.w) X E) (hdb:(x == ("__debug__":G9))=false:=by decide) :
  PE X (.Call (.Name x p) [] [] pos) (zh C sp [] E wv):=by
 obtain ⟨f,fd,h1,h3,h4⟩:=F.ex;exact CW h1 h4 hr hg F.at_ h3 .nil hx hdb
def fW (mg:G9->Option Gg) (x:G9) (i:Int):Prop:=∃ t,mg x=some (.int i t)
theorem fO {i:Int} (hm:fW X.mg x i) (hg:Gl X x) (hd:(x == ("__debug__":G9))=false:=by decide):PE X (.Name x pos) (tC (.int i)):=by
 obtain ⟨t,h⟩:=hm;exact vG hg h ⟨t,rfl⟩ hd
def BI (K:Gh) (mg:G9->Option Gg) (x:G9) (xs:List V):Prop:=∃ a,mg x=some (.ref a)/\∀ H,SqT K H a xs
def tGT (K:Gh) (xs:List V):TE:=fun _ H Q=>∀ a,(∀ H',SqT K H' a xs)->Q (.ref a) H
theorem Aa {xs:List V} (hm:BI X.K X.mg x xs) (hg:Gl X x) (hd:(x == ("__debug__":G9))=false:=by decide):PE X (.Name x pos) (tGT X.K xs):=by
 obtain ⟨a,h,hs⟩:=hm;intro pins s σ H Q I q;exact vG (v := .ref a) hg h rfl hd pins s σ H Q I (q a hs)
end
theorem yN (l:Gf) (its:Array Gg) (n:Nat) (b:Gf) (its2:Array Gg) (n2:Nat) (dd:Option Gf) (sl:Array (Option Gg)) (h0:¬(!its.isEmpty && IN (its.size+its2.size))=true) (h1:its.size<=sizeLine) (h2:its.size+its2.size<=sizeLine+1) :
  Meets (Ht.«list.extend» ⟨[.ref l,.ref b],[]⟩) (fun _ R s=>s.heap.get? l=some { cls := .type "list",dict:=none,data := .seq its n,slots:=#[] }/\s.heap.get? b=some { cls := .type "tuple",dict:=dd,data := .seq its2 n2,slots:=sl } /\
   R (.ok (.ret Iy)) { s with heap:=s.heap.update l (Lh fun x=>x++its2),toks:=s.toks }) :=
 .of_wp fun prog w A R s h=>by
  obtain ⟨hp,g,d,tk,os⟩:=s;obtain ⟨hl,hb,h⟩:=h;have f1:=PySem.AutoSeq1.idx_int;have f2:=PySem.AutoSeq1.sub_tuple_tuple;have f3:=PySem.AutoSeq1.sub_list_list;have f4:=PySem.AutoSeq1.sub_tuple_list;have f5:=PySem.AutoSeq1.sub_list_tuple;have z:(its++its2).size<=sizeLine+1:=by
   rw [Array.size_append];exact h2
  wp_walk using (LB hl rfl (hz:=h1) (_hz':=z)),wpAny_loadPart' hl,wpAny_loadPart' hb
  exact ⟨_,rfl,h⟩
section
variable {X:Cx}
def rExtT (K:Gh):V->List V->Hp->VK->Prop:=fun x vs H Q=>∃ l b xs zs,x = .ref l/\vs=[.ref b]/\H l=some (.lst xs)/\SqT K H b zs/\xs.length+zs.length<=sizeLine/\Q .non (upd H l (.lst (xs++zs)))
theorem Ah:MtM X "list.extend" (rExtT X.K):=by
 intro pins s σ H x vs v us Q I rx rv h;obtain ⟨l,b,xs,zs,rfl,rfl,hH,hB,hz,q⟩:=h;cases rx;obtain ⟨u,rfl,ru⟩:=rv.one;cases ru;obtain ⟨z,its,n,r,hl,e⟩:=I.lstM hH;obtain ⟨its2,r2,pt,hz2⟩:=I.tuple hB;obtain ⟨ob,ho,hc,n2,hd⟩:=pt;have hl2:=r2.length;have hsz:its.toArray.size+its2.toArray.size<=sizeLine:=by rw [G0,G0];omega
 have hlong:¬ (!its.toArray.isEmpty && IN (its.toArray.size+its2.toArray.size))=true:=by
  rw [sH hsz,Bool.and_false];exact GI
 obtain ⟨oc,od,odt,osl⟩:=ob;simp only at hc hd;subst hc hd;refine K3 F.slot_list_extend ⟨_,e,rfl⟩ F.entry_list_extend (F.args_list_extend_2 _ _)
  (yN l its.toArray n b its2.toArray n2 od osl hlong (by rw [G0];omega) (by omega)) ⟨e,ho,?_⟩
 refine ⟨.non,_,I.lset (its':=its++its2) hH e (by simp) (r.append r2) ?_,rfl,q⟩;rw [Gi];omega
def rCount (K:Gh):V->List V->Hp->VK->Prop:=fun x vs H Q=>∃ (l:Gf) (k:Int) (ns:List Int),x = .ref l/\vs=[.int k]/\SqL K H l (ns.map V.int)/\Q (.int (ns.count k:Nat)) H
theorem tP:MtM X "list.count" (rCount X.K):=by
 intro pins s σ H x vs v us Q I rx rv h;obtain ⟨l,k,ns,rfl,rfl,hH,q⟩:=h;cases rx;obtain ⟨u,rfl,ru⟩:=rv.one;obtain ⟨t,rfl⟩:=ru;obtain ⟨its,r,hl,hz⟩:=I.list hH;exact count_list_ints hl.isList r.ints ⟨.int _,H,I.tok _,⟨_,rfl⟩,q⟩
def CShl (i j:Int):Prop:=0<=j/\(JH i:Int)+j<=2 ^ 27
theorem Af:OpR X (binaryOp .LShift) (rI CShl fun i j => .int (i*2 ^ j.toNat)):=opI fun _ _ _ _ _ _ _ hc q=>lshift_int hc.1 hc.2 q
end
def tFrz (t:TE):TE:=fun σ H Q=>t σ H fun v H1=>∃ d kvs,v = .ref d/\H1 d=some (.dK kvs)/\∀ od,Q v (upd H1 d (.frz od (.dK kvs)))
theorem pe_frz {X:Cx} {e:HM} {t:TE} (h:PE X e t):PE X e (tFrz t):=by
 intro pins s σ H Q I hw;refine thn (h pins s σ H _ I hw) fun v s1 ⟨x,H1,I1,r,d,kvs,ex,hd,q⟩=>?_
 obtain ⟨od,I2⟩:=I1.lock hd JN;exact ⟨x,_,I2,r,q od⟩
theorem Fu {d:Gf} {o:Io} {kvs:List (Key×V)} {g:TG} {tt:TT} {te:TE} {vs:List Nat} {σ:St} {H1:Hp} {D:Gf} {Qd:Hp->Prop} (Pv:Nat->Hp->Prop) (h0:Pv 0 (upd H1 D (.lst []))) (hl:∀ i H,Pv i H->H d=some (.frz o (.dK kvs)))
  (hs:∀ i k v H,kvs[i]?=some (k,v)->Pv i H->g (kV k) (wipe σ vs) H fun σ2 H2=>wipe σ2 vs=wipe σ vs/\tt σ2 H2 fun b H3 =>
   if b=true then te σ2 H3 fun y H4=>∃ acc,H4 D=some (.lst acc)/\acc.length<sizeLine/\Pv (i+1) (upd H4 D (.lst (acc++[y]))) else Pv (i+1) H3) (hd:∀ H,Pv kvs.length H->Qd H) :
  ∃ W:Nat->Nat->Hp->Prop,(∃ m,W 0 m (upd H1 D (.lst [])))/\∀ i m H,W i m H ->
   ((Itk d o kvs).stop i H/\Qd H)∨((Itk d o kvs).go i H/\∃ Nx:Hp->Prop,(∀ H',Nx H'->∃ m',m'<m/\W (i+1) m' H')/\∀ x H',(Itk d o kvs).yld i H x H'->g x (wipe σ vs) H' fun σ2 H2=>wipe σ2 vs=wipe σ vs/\tt σ2 H2 fun b H3 =>
    if b=true then te σ2 H3 fun y H4=>∃ acc,H4 D=some (.lst acc)/\acc.length<sizeLine/\Nx (upd H4 D (.lst (acc++[y]))) else Nx H3):=by
 refine ⟨fun i m H=>m=kvs.length-i/\i<=kvs.length/\Pv i H,⟨kvs.length,by simp,G5 _,h0⟩,?_⟩
 rintro i m H ⟨rfl,hi,p⟩
 have q:=hl i H p;by_cases hlt:i<kvs.length
 ·refine .inr ⟨⟨q,hlt⟩,Pv (i+1),fun H' p'=>⟨kvs.length-(i+1),by omega,rfl,hlt,p'⟩,fun x H' y=>?_⟩
  obtain ⟨e,k,v,ek,ex⟩:=y;subst e ex;exact hs i k v _ ek p
 ·have e:i=kvs.length:=by omega
  subst e;exact .inl ⟨⟨q,Go _⟩,hd H p⟩
theorem Ao:∀ (vs:List Gg) (ns:List Int),vs.length=ns.length->(∀ (j:Nat) (v:Gg) (n:Int),vs[j]?=some v->ns[j]?=some n->∃ t,v = .int n t)->LA vs ns
 | [],[],_,_ => .nil
 | [],_::_,h,_=>by simp at h
 | _::_,[],h,_=>by simp at h
 | v::vs,n::ns,h,f=>by
  obtain ⟨t,rfl⟩:=f 0 v n rfl rfl;exact .cons n t (Ao vs ns (by simpa using h) fun j u m e1 e2=>f (j+1) u m (by simpa using e1) (by simpa using e2))
def CK:List V->Hp->VK->Prop:=fun vs H Q=>∃ (a:Gf) (kvs:List (Key×V)) (ns:List Int),vs=[V.ref a]/\H a=some (.dK kvs)/\kvs.map (·.1)=ns.map Hm /\
 ∀ (ns':List Int) (p:Gf),ns'.Perm ns->ns'.Pairwise (· <= ·)->H p=none->Q (.ref p) (upd H p (.lst (ns'.map V.int)))
theorem Fv {kvs:List (Key×V)} {ws:List (Key×Gg)} (h:KV kvs ws):ws.map (·.1)=kvs.map (·.1):=by
 unfold KV at h;induction h with
 | nil=>rfl
 | cons r t ih=>rw [Hs,Hs,ih,r.1]
theorem yQ {X:Cx} (hc:X.calm=true):mo X (.builtin "sorted") CK:=by
 intro pins s σ H vs us Q I r h;obtain ⟨a,kvs,ns,rfl,ha,hk,q⟩:=h;rw [fu.ref1 r];obtain ⟨z,hs,ws,kv,dd⟩:=DZ I.hok ha;obtain ⟨ep,da⟩:=dd.dictAt;have hl:kvs.length=ws.length:=JS kv;have hn:ns.length=ws.length:=by rw [← hl,← Ge (as:=kvs) (f:=(·.1)),hk,Ge]
 refine Calls.call_function_entry kind_sorted plain_sorted entry_sorted (args_sorted1 _) ?_;unfold Ht.«sorted»;refine Gm (m:=checkCount "sorted" 1 1 _) (GY ?_);refine Gm (PySem.W.kdu_collect (A:=X.A.in1) (PySem.W.kdl_dict (knd:=mixKind X.prog X.w) (kvs:=ws) (ep:=ep) hs) (I.ok.hd hc) da (by omega) fun h' tk acc hkp hacc=>?_)
 have al:acc.toList.length=ws.length:=by rw [IC];exact hacc.1
 have hI:LA acc.toList ns:=by
  refine Ao _ _ (by omega) fun j v n e1 e2=>?_
  obtain ⟨k,x,ek,is⟩:=hacc.2 j v (by rw [← Array.getElem?_toList];exact e1);have e3:(ws.map (·.1))[j]?=some k:=by rw [Hh,ek];rfl
  rw [Fv kv,hk,Hh,e2] at e3;have e3:Hm n=k:=Hd e3;subst e3;exact Gg.isInt_shape (k:=n) (v:=v) is
 refine Gm (wpAny_newList ?_ (by omega));have hoL:(h'.push (seqObj "list" acc.toList.toArray 0)).get? h'.objs.size=some (seqObj "list" acc.toList.toArray 0):=Hi _ rfl;refine Gm (Jr (KA slot_list_sort ⟨_,hoL,rfl⟩ entry_list_sort (list_sort_treeAny hoL hI (by omega) fun out ns' h1 h2 h3=>⟨_,rfl,?_⟩) (args_list_sort _)))
 refine GY ⟨_,rfl,?_⟩;obtain ⟨ep2,he2⟩:=sortedHeap_at (out:=out) hoL;have I1:Inv X pins σ H { s with heap:=h',toks:=tk }:=I.kept hkp
 have hlen:(ns'.map V.int).length<=sizeLine:=by rw [Ge,h2.length_eq];omega
 refine ⟨.ref _,upd H h'.objs.size (.lst (ns'.map V.int)),I1.laid (t':=tk) (fun b o e'=>?_) (Go _) ⟨hlen,out.toList,ep2,oS h1,he2⟩,rfl,q ns' _ h2 h3 (I1.hok.fresh (Go _))⟩
 have lt:=Ha e';rw [sortedHeap_old (Hu lt) (by rw [Iz];exact K0 lt)];exact Gx _ e'
section
variable {prog:Hk} {w:Hy} {A:HB} {R:Result->Gp->Prop} {I:Gf} {fp wr:List Gf} {n:Nat} {P:Nat->Gg->Prop} {St:Nat->GZ->Prop}
theorem DF (W:Walks prog w A.in1 I fp wr n P St) (bt:Nat->Nat->Bool) (hcmp:CmpOf prog w A.in1 .Gt P bt) (S:Gf) (nS:S∉fp) (kw:List (G9×Gg)) :
  ∀ (k j:Nat) (s:Gp) (vb:Gg) (c:Nat),n-(j+1)=k->j+1<=n->St (j+1) s.heap->P (argBest bt j) vb->s.heap.get? S=some { cls := .type "list",dict:=none,data := .seq #[vb,vb] c,slots:=#[] } ->
  (∀ v h' tk,P (argBest bt (n-1)) v->(∀ b o,b∉wr->b≠S->s.heap.get? b=some o->h'.get? b=some o)->R (.ok (.ret v)) { s with heap:=h',toks:=tk }) ->
  codeAny (model prog w) A (.builtin "max.loop" ⟨[.ref I,.none,.ref S],kw⟩) R s:=by
 have nw:S∉wr:=fun h=>nS (W.sub _ h)
 have nm:(toString "max" ++ toString ".loop":String) = "max.loop":=by decide
 intro k;induction k with
 | zero =>
  intro j s vb c hk hj hst hPb hO hR;have hin:j+1=n:=by omega
  refine KP K6 ?_;rw [JJ IK _];show wpAny _ A.in1 (seqItems? (.ref S) >>= _) _ _ s;refine Gm (LP hO rfl ?_);show wpAny _ A.in1 (tryCatch (pyNext (.ref I)) _ >>= _) _ _ s;refine Gm (Kk (W.done s _ _ (hin▸hst) fun h' tk kk=>?_))
  have hO':=kk S _ nw hO;show wpAny _ A.in1 (updateSeq S (fun _=>#[]) >>= _) _ _ _
  refine Gm (LB hO' rfl (Gm (wpAny_letGo (GY ?_))));exact hR vb _ tk (by rw [← hin];exact hPb) fun b o hbw hbS e=>(HK _ _ (HA hbS)).trans (kk b o hbw e)
 | succ k ih =>
  intro j s vb c hk hj hst hPb hO hR;have hlt:j+1<n:=by omega
  refine KP K6 ?_;rw [JJ IK _];show wpAny _ A.in1 (seqItems? (.ref S) >>= _) _ _ s;refine Gm (LP hO rfl ?_);show wpAny _ A.in1 (tryCatch (pyNext (.ref I)) _ >>= _) _ _ s;refine Gm (Kk (W.item (j+1) s _ _ hlt hst fun v h' tk hP hst' kk=>?_))
  have hO':=kk S _ nw hO;show wpAny _ A.in1 (tryCatch (holding [v,v] (richCompare .Gt v vb >>= _)) _ >>= _) _ _ _;refine Gm (Kk (Jr (Gm (hcmp (j+1) (argBest bt j) v vb _ _ _ hP hPb (Gm (Jr (Jo (Gm (wpAny_letGo (GY ?_))))))))));cases hb:bt (j+1) (argBest bt j) with
  | true =>
   simp only [if_true];refine Gm (LB hO' rfl (Gm (wpAny_letGo ?_)));rw [nm];refine GY ⟨J7 IK _,ih (j+1) _ v _ (by omega) hlt (W.frame _ _ _ hst' fun b hbf o e=>(HK _ _ (fun h:S=b=>nS (by rw [h];exact hbf))).trans e) (by simp only [argBest,hb,if_true];exact hP) (IF _ hO' rfl)
    fun v' h2 tk2 hP' kk2=>hR v' h2 tk2 hP' fun b o hbw hbS e=>kk2 b o hbw hbS ((HK _ _ (HA hbS)).trans (kk b o hbw e))⟩
  | false =>
   simp only [Jx,if_false];refine Gm (wpAny_letGo ?_);rw [nm];refine GY ⟨J7 IK _,ih (j+1) _ vb c (by omega) hlt hst' (by simp only [argBest,hb,Jx,if_false];exact hPb) hO' fun v' h2 tk2 hP' kk2=>hR v' h2 tk2 hP' fun b o hbw hbS e=>kk2 b o hbw hbS (kk b o hbw e)⟩
theorem Bj (W:Walks prog w A.in1 I fp wr n P St) (bt:Nat->Nat->Bool) (hcmp:CmpOf prog w A.in1 .Gt P bt) (S:Gf) (nS:S∉fp) (nm0:G9) (d:Gg) {s:Gp} {c:Nat} (hst:St 0 s.heap)
  (hO:s.heap.get? S=some { cls := .type "list",dict:=none,data := .seq #[] c,slots:=#[] })
  (h0:n=0->∀ h' tk,(∀ b o,b∉wr->b≠S->s.heap.get? b=some o->h'.get? b=some o)->R (.ok (.ret d)) { s with heap:=h',toks:=tk })
  (hR:0<n->∀ v h' tk,P (argBest bt (n-1)) v->(∀ b o,b∉wr->b≠S->s.heap.get? b=some o->h'.get? b=some o)->R (.ok (.ret v)) { s with heap:=h',toks:=tk }) :
  codeAny (model prog w) A (.builtin "max.loop" ⟨[.ref I,.none,.ref S],[(nm0,d)]⟩) R s:=by
 have nw:S∉wr:=fun h=>nS (W.sub _ h)
 have nm:(toString "max" ++ toString ".loop":String) = "max.loop":=by decide
 refine KP K6 ?_;rw [JJ IK _];show wpAny _ A.in1 (seqItems? (.ref S) >>= _) _ _ s;refine Gm (LP hO rfl ?_);show wpAny _ A.in1 (tryCatch (pyNext (.ref I)) _ >>= _) _ _ s;by_cases hn:n=0
 ·refine Gm (Kk (W.done s _ _ (hn▸hst) fun h' tk kk=>?_))
  show wpAny _ A.in1 (rule _ >>= fun _=>ret d) _ _ _
  refine Gm (wpAny_rule ?_);exact GY (h0 hn _ _ fun b o hbw _ e=>kk b o hbw e)
 ·refine Gm (Kk (W.item 0 s _ _ (LR hn) hst fun v h' tk hP hst' kk=>?_))
  have hO':=kk S _ nw hO;show wpAny _ A.in1 (updateSeq S (fun _=>#[v,v]) >>= _) _ _ _
  refine Gm (LB hO' rfl ?_);rw [nm];exact GY ⟨J7 IK _,DF W bt hcmp S nS _ _ 0 _ v _ rfl (LR hn) (W.frame _ _ _ hst' fun b hbf o e=>(HK _ _ (fun h:S=b=>nS (by rw [h];exact hbf))).trans e) hP (IF _ hO' rfl)
   fun v' h2 tk2 hP' kk2=>hR (LR hn) v' h2 tk2 hP' fun b o hbw hbS e=>kk2 b o hbw hbS ((HK _ _ (HA hbS)).trans (kk b o hbw e))⟩
end
theorem BF (a v:Gg):argsOk "max" ⟨[a],[(KM "default",v)]⟩:=by unfold argsOk;kernel_rfl
theorem DI {prog:Hk} {w:Hy} {A:HB} {E:Gg->Gp->Prop} {s:Gp} {l:Gf} {its:List Gg} {ns:List Int} {Q:Gg->Gp->Prop} {d:Gg} (hh:A.handled=none) (hl:s.heap.IsList l its.toArray) (hi:LA its ns)
  (h0:ns=[]->∀ h' tk,(∀ b o,s.heap.get? b=some o->h'.get? b=some o)->Q d { s with heap:=h',toks:=tk })
  (h:∀ h' tk M t',(∀ b o,s.heap.get? b=some o->h'.get? b=some o)->M∈ns->(∀ a,a∈ns->a<=M)->Q (.int M t') { s with heap:=h',toks:=tk }):wpAny (model prog w) A (call (.builtin "max") [.ref l] [(KM "default",d)]) Q E s:=by
 obtain ⟨xs,e⟩:=hi.allInts.items;have hn:numsOf (intItems xs).toList=ns:=by rw [← e];exact hi.numsOf
 rw [nums_intItems] at hn;subst hn;rw [e] at hl;have nm:(toString "max" ++ toString ".loop":String) = "max.loop":=by decide
 refine kmk_tree PySem.F.kind_max PySem.F.plain_max PySem.F.entry_max (BF _ _) ?_;show wpAny _ A.in1 (Lv "max" ["key","default"] 0 ⟨[],[(KM "default",d)]⟩ >>= _) _ _ s;refine Gm (wpAny_of_eq (show Lv "max" ["key","default"] 0 ⟨[],[(KM "default",d)]⟩=pure [none,some d] from rfl) ?_);refine Gm (GY ?_);refine Gm (iter_intList hl fun s2 e2 st hfp hlI=>?_)
 subst e2;refine Gm (JP ?_);rw [nm];have W:=Walks.list (prog:=prog) (w:=w) (A:=A.in1) hh s.heap.objs.size l hlI (intItems xs);have hsz:(intItems xs).size=xs.size:=by simp [intItems]
 refine GY ⟨J7 IK _,Bj W _ (CmpOf.ints_gt (numAt xs) (fun _ _=>intItems_at)) _ (fun hm=>IL _ (hfp _ hm)) _ d (W.frame _ _ _ st fun b _ o e=>Gx _ e) (Hi _ rfl) (fun hz h' tk kk=>?_) fun hz v h' tk hP kk=>?_⟩
 ·refine h0 ?_ h' tk (old_kept fun b o hb e=>kk b o hb (Hu (Ha e)) (Gx _ e))
  rw [hsz] at hz;rw [List.map_eq_nil_iff];exact Me (by rw [IC];exact hz)
 ·rw [hsz] at hz hP
  have hP:(intItems xs)[argBest (fun i j=>decide (numAt xs i>numAt xs j)) (xs.size-1)]?=some v:=hP
  obtain ⟨t,rfl⟩:=intItems_at hP;obtain ⟨h1,h2⟩:=argBest_gt (numAt xs) (xs.size-1);refine h h' tk _ t (old_kept fun b o hb e=>kk b o hb (Hu (Ha e)) (Gx _ e)) ?_ fun a ha=>?_
  ·rw [numAt_eq];exact PySem.getD_mem (by rw [Ge,IC];omega)
  ·obtain ⟨j,hj,rfl⟩:=mem_getD ha
   rw [Ge,IC] at hj;rw [← numAt_eq];exact h2 j (by omega)
def tMaxD (K:Gh) (te:TE):TE:=fun σ H Q=>BQ te wv σ H fun vs H1=>∃ (a:Gf) (ns:List Int),vs=[.ref a]/\SqL K H1 a (ns.map V.int)/\(ns=[]->Q .non H1)/\∀ m,m∈ns->(∀ y,y∈ns->y<=m)->Q (.int m) H1
theorem EV {X:Cx} {p pos kpos:Kv} {e d:HM} {te:TE} (hc:X.calm=true) (hg:Gl X "max") (hm:X.mg "max"=none) (ha:PE X e te) (hd:PE X d (tC .non)) (hs:starEach [e] X.env=(false,eval e X.env)::starEach [] X.env:=by rfl)
  (he:backTo pos (starEach [e] X.env)=(false,eval e X.env)::backTo pos (starEach [] X.env):=by rfl) (hpl:(backTo pos (starEach [e] X.env)).any (·.1)=false:=by rfl) :
  PE X (.Call (.Name "max" p) [e] [⟨some "default",d,kpos⟩] pos) (tMaxD X.K te):=by
 intro pins s σ H Q I h;refine IW (oK I hg hm boot_max ?_);refine PyProof.Rows.callWith_kw (thn (eA ha eF hs pos pins s σ H _ I h) fun us s1 ⟨vs,H1,I1,r1,q1⟩=>?_) he hpl
 refine thn (ER (nm:=some "default") (kpos:=kpos) hd pk_nil pos pins s1 σ H1 (fun zs H2=>zs=[.non]/\H2=H1) I1 ⟨rfl,rfl⟩) fun ws s2 ⟨zs,H2,I2,rz,ez,eh⟩=>?_
 subst ez eh;obtain ⟨w0,rfl,rw0⟩:=vals1 rz;obtain rfl:w0=Iy:=rw0;obtain ⟨a,ns,rfl,hS,k0,k1⟩:=q1;obtain ⟨its,rv,hl,_⟩:=I2.list hS;rw [fu.ref1 r1];exact DI (I2.ok.hd hc) hl.isList rv.ints (fun e0 h' tk kk=>⟨.non,_,I2.kept kk,rfl,k0 e0⟩) fun h' tk M t' kk m1 m2=>⟨.int M,_,I2.kept kk,⟨_,rfl⟩,k1 M m1 m2⟩
end L2
namespace Lp
theorem U.{u} {α:Sort u} {a:α}:a=a:=rfl
open PySem PySem.Spec PyProof.Rows L2
open Sw (Bytes ofLe part)
open SwVersion (linesOf joinedL isOpen isText LF runsOf someOf must Piece patchBytes patched backOf readRuns readPatch marked patchOf parentOf readVersions readHistory KEPT VERSIONS merged piecesOf parentNum)
open Lb (fj fJ y4 bv bitsOf eqsOf sx pairsOf gD dist runsP Up between linesRun toPiece ofPiece encP gq iJ lastBad jc addPlace addLines pmerge MSt stillOf tG byPatch WF gz keptText oneVersion patchedG Anc jf whBy jN fillOne fillAll encV)
open VersionNs (Answer says tells gives wrong runNums ofPatch)
open VersionNeutral (numbersOf text)
variable {P:Hk} {w:Hy} {K:Gh} {mg:G9->Option Gg} {base:GZ}
def top (i:Nat):HH:=PySem.Challenge.pw_linesback_s01_answers.main.body.getD i (.Pass ⟨0,0,0,0⟩)
abbrev lV:HH:=fB (top 5) 0
abbrev kT:HH:=fB (top 6) 0
abbrev iz:HH:=fB (top 6) 1
abbrev iR:HH:=fB (top 6) 2
abbrev iA:HH:=fB (top 6) 3
abbrev iS:HH:=fB (top 6) 4
abbrev jL:HH:=top 7
abbrev kK:HH:=top 12
abbrev lR:HH:=top 13
abbrev mC:HH:=top 14
abbrev jj:HH:=top 15
abbrev kQ:HH:=top 16
abbrev jZ:HH:=top 17
abbrev iw:HH:=top 18
abbrev lQ:HH:=top 20
abbrev jk:HH:=top 21
abbrev lL:HH:=top 22
abbrev jK:HH:=top 23
abbrev jm:HH:=top 24
abbrev iu:HH:=top 27
abbrev kM:HH:=top 28
abbrev oA:HH:=top 29
abbrev oB:HH:=top 30
abbrev lP:HH:=top 31
abbrev m9:HH:=top 32
abbrev kJ:HH:=top 33
abbrev ke:HH:=fB (top 37) 0
abbrev gb:HH:=fB (top 37) 1
abbrev gJ:HH:=top 38
abbrev kg:HH:=fB (top 39) 0
abbrev iU:HH:=fB (top 39) 1
abbrev gL:HH:=fB (top 39) 2
abbrev gK:HH:=fB (top 39) 3
abbrev gY:HH:=fB (top 39) 4
abbrev gM:HH:=fB (top 39) 5
abbrev g8:HH:=fB (top 39) 6
abbrev jp:HH:=fB (top 39) 7
abbrev gf:HH:=fB (top 39) 8
abbrev kU:HH:=fB (top 45) 0
abbrev iC:HH:=fB (top 45) 1
abbrev iT:HH:=fB (top 45) 2
abbrev iD:HH:=fB (top 45) 3
abbrev iB:HH:=fB (top 45) 4
abbrev ju:HH:=top 46
abbrev kN:HH:=top 47
abbrev jY:HH:=top 53
abbrev jF:HH:=top 54
abbrev kL:HH:=top 55
abbrev hW:HH:=top 56
abbrev mB:HH:=top 57
abbrev jE:HH:=top 58
abbrev jW:HH:=top 59
abbrev jX:HH:=top 60
abbrev mD:HH:=fB (top 74) 0
abbrev iV:HH:=fB (top 75) 0
abbrev gZ:HH:=fB (top 75) 1
abbrev gv:HH:=fB (top 75) 2
abbrev gA:HH:=fB (top 75) 3
abbrev gN:HH:=fB (top 75) 4
abbrev qm:HH:=top 76
abbrev kP:HH:=top 77
abbrev jD:HH:=top 78
abbrev lM:HH:=top 79
abbrev kO:HH:=top 80
abbrev j7:HH:=top 81
abbrev jH:HH:=top 82
abbrev kd:HH:=top 83
abbrev iO:HH:=top 84
abbrev iP:HH:=top 85
abbrev iy:HH:=top 86
abbrev ii:HH:=top 87
abbrev lS:HH:=top 88
abbrev jn:HH:=top 89
abbrev kR:HH:=top 90
abbrev jG:HH:=top 91
abbrev hX:HH:=top 92
abbrev im:HH:=top 93
abbrev lU:HH:=fB (top 94) 0
abbrev iQ:HH:=fB (top 94) 1
abbrev gu:HH:=fB (top 94) 2
abbrev kS:HH:=fB (top 94) 3
abbrev lT:HH:=fB (top 94) 4
abbrev qr:HH:=top 95
theorem mkSc {N ps:List G9} {sc:JL} (a:sc.kind = .function:=by rfl) (b:sc.isCoroutine=false:=by rfl) (c:sc.isGenerator=false:=by rfl) (d:N.Nodup:=by decide +kernel) (e:N.take ps.length=ps:=by rfl) (f:∀ x∈ps,sc.names.lookup x=some .local∨sc.names.lookup x=some .cell:=by decide +kernel) (g:∀ y∈sc.names,y.2 ≠ .free:=by decide +kernel):eM N ps sc:=⟨a,b,c,d,e,f,g⟩
theorem okN {x qual:G9} {st:HH} {f:Gf} {fd:GG} {N ps:List G9} {k:Nat} {sp:Sp} (F:Fun K x qual st f fd) (S:eM N ps (defScope st))
  (hbody:∀ (cdv:Gg) (A:HB) (outer:List L5) (s:Gp) (H:Hp) (vs:List V) (Q:VK) (E:XK),fi k (A.deeper (envOfC qual (defScope st) s.heap.objs.size f cdv))->sp vs H Q E ->
   ∃ t,PSs (cxOf (decide (10<=k)) (CXF P w) P w K mg base N qual (defScope st) f cdv A outer s H E).nox (gS st) t/\t { nx:=fun _ H'=>Q .non H',rt:=Q } (start N vs) H) (len:∀ vs H Q E,sp vs H Q E->vs.length=ps.length:=by intro vs H Q E h;(repeat (obtain ⟨x,h⟩:=h;try subst x));rfl):ff P w K mg base (CXF P w) (k+1) f fd ps sp:=by
 obtain ⟨oc,od,kV,doc,pm,an,cdv,ct,osl,rfl,lk,hcd⟩:=F.ex;refine F5 lk hcd S len fun A outer s H vs Q E hr hsp=>?_
 obtain ⟨t,h,q⟩:=hbody cdv A outer s H vs Q E hr hsp;exact ⟨t,h.nox,q⟩
theorem okX {x qual:G9} {st:HH} {f:Gf} {fd:GG} {N ps:List G9} {k:Nat} {sp:Sp} (F:Fun K x qual st f fd) (S:eM N ps (defScope st))
  (hbody:∀ (cdv:Gg) (A:HB) (outer:List L5) (s:Gp) (H:Hp) (vs:List V) (Q:VK) (E:XK),fi k (A.deeper (envOfC qual (defScope st) s.heap.objs.size f cdv))->sp vs H Q E ->
   ∃ t,PSs (cxOf (decide (10<=k)) (CXF P w) P w K mg base N qual (defScope st) f cdv A outer s H E) (gS st) t/\t { nx:=fun _ H'=>Q .non H',rt:=Q } (start N vs) H) (len:∀ vs H Q E,sp vs H Q E->vs.length=ps.length:=by intro vs H Q E h;(repeat (obtain ⟨x,h⟩:=h;try subst x));rfl):ff P w K mg base (CXF P w) (k+1) f fd ps sp:=by
 obtain ⟨oc,od,kV,doc,pm,an,cdv,ct,osl,rfl,lk,hcd⟩:=F.ex;exact F5 lk hcd S len fun A outer s H vs Q E hr hsp=>hbody cdv A outer s H vs Q E hr hsp
def vb (c:UInt8):V := .int c.toNat
theorem vj {a b:UInt8} (h:vb a=vb b):a=b:=by
 unfold vb at h;injection h with h
 have:a.toNat=b.toNat:=by omega
 exact UInt8.toNat_inj.mp this
theorem zd:∀ {a b:Gn},a.map vb=b.map vb->a=b
 | [],[],_=>rfl
 | [],_::_,h=>by simp at h
 | _::_,[],h=>by simp at h
 | x::a,y::b,h=>by
  rw [Hs,Hs] at h;injection h with h1 h2
  rw [vj h1,zd h2]
structure f9 (H:Hp) (as:List Gf) (ls:List Gn):Prop where
 len:as.length=ls.length
 at_:∀ (i:Nat) (a:Gf) (l:Gn),as[i]?=some a->ls[i]?=some l->H a=some (.tup (l.map vb))
def eS (H:Hp) (p:Gf) (ls:List Gn):Prop:=∃ as:List Gf,H p=some (.lst (as.map V.ref))/\f9 H as ls
theorem f9.same {H H':Hp} {as:List Gf} {ls:List Gn} (h:f9 H as ls) (k:∀ a xs,H a=some (.tup xs)->H' a=some (.tup xs)):f9 H' as ls:=⟨h.len,fun i a l e1 e2=>k _ _ (h.at_ i a l e1 e2)⟩
theorem f9.nil {H:Hp}:f9 H [] []:=⟨rfl,fun i a l e _=>by simp at e⟩
theorem f9.snoc {H:Hp} {as:List Gf} {ls:List Gn} {a:Gf} {l:Gn} (h:f9 H as ls) (e:H a=some (.tup (l.map vb))):f9 H (as++[a]) (ls++[l]):=by
 refine ⟨by simp [h.len],fun i b m e1 e2=>?_⟩
 by_cases hi:i<as.length
 ·rw [G6 hi] at e1
  rw [G6 (by rw [← h.len];exact hi)] at e2;exact h.at_ i b m e1 e2
 ·have h1:=(Gj.mp e1).1
  have:i=as.length:=by simp at h1;omega
  subst this;rw [Hg (Go _)] at e1;rw [h.len,Hg (Go _)] at e2;simp at e1 e2;subst e1 e2;exact e
theorem f9.get {H:Hp} {as:List Gf} {ls:List Gn} (h:f9 H as ls) {i:Nat} {l:Gn} (e:ls[i]?=some l):∃ a,as[i]?=some a/\H a=some (.tup (l.map vb)):=by
 have hi:i<as.length:=by rw [h.len];exact (Gj.mp e).1
 exact ⟨as[i],Gk hi,h.at_ i _ l (Gk hi) e⟩
theorem f9.ofGet {H:Hp} {as:List Gf} {ls:List Gn} (h:f9 H as ls) {i:Nat} {a:Gf} (e:as[i]?=some a):∃ l,ls[i]?=some l/\H a=some (.tup (l.map vb)):=by
 have hi:i<ls.length:=by rw [← h.len];exact (Gj.mp e).1
 exact ⟨ls[i],Gk hi,h.at_ i a _ e (Gk hi)⟩
theorem f9.take {H:Hp} {as:List Gf} {ls:List Gn} (h:f9 H as ls) (n:Nat):f9 H (as.take n) (ls.take n):=by
 refine ⟨by simp [h.len],fun i a l e1 e2=>?_⟩
 have hi:i<n:=by
  have:=(Gj.mp e1).1;rw [HF] at this;omega
 rw [List.getElem?_take_of_lt hi] at e1 e2;exact h.at_ i a l e1 e2
theorem f9.drop {H:Hp} {as:List Gf} {ls:List Gn} (h:f9 H as ls) (n:Nat):f9 H (as.drop n) (ls.drop n):=by
 refine ⟨by simp [h.len],fun i a l e1 e2=>?_⟩
 rw [J2] at e1 e2;exact h.at_ _ a l e1 e2
theorem f9.append {H:Hp} {as bs:List Gf} {ls ms:List Gn} (h:f9 H as ls) (g:f9 H bs ms):f9 H (as++bs) (ls++ms):=by
 refine ⟨by simp [h.len,g.len],fun i a l e1 e2=>?_⟩
 by_cases hi:i<as.length
 ·rw [G6 hi] at e1
  rw [G6 (by rw [← h.len];exact hi)] at e2;exact h.at_ i a l e1 e2
 ·rw [Hg (by omega)] at e1
  rw [Hg (by rw [← h.len];omega),← h.len] at e2;exact g.at_ _ a l e1 e2
theorem _root_.L2.eT.tups {H H':Hp} (s:eT H H'):∀ a xs,H a=some (.tup xs)->H' a=some (.tup xs):=fun a xs e=>s a _ e
theorem eS.same {H H':Hp} {p:Gf} {ls:List Gn} (h:eS H p ls) (s:eT H H'):eS H' p ls:=let ⟨as,e,l⟩:=h;⟨as,s _ _ e,l.same (eT.tups s)⟩
theorem _root_.L2.eT.new {H H1:Hp} {p:Gf} {o:HO} (s:eT H H1) (n:H1 p=none):eT H (upd H1 p o):=fun b u e=>by
 rw [eK (eW (s b u e) n)];exact s b u e
theorem _root_.L2.eT.own {H H1:Hp} {p:Gf} {o:HO} (s:eT H H1) (n:H p=none):eT H (upd H1 p o):=fun b u e=>by
 rw [eK (eW e n)];exact s b u e
theorem _root_.L2.upN {H:Hp} {p:Gf} {o:HO} (n:H p=none):eT H (upd H p o):=(eT.refl H).new n
theorem _root_.L2.mn {H:Hp} {l:Gf} {xs:List V} {o:HO} (h:H l=some (.lst xs)):∀ a ts,H a=some (.tup ts)->upd H l o a=some (.tup ts):=fun a ts e=>by
 rw [eK (fG e h (by intro z;cases z))];exact e
theorem i7 {xs:List V} {z y:Int} {s e:Nat} (hz:z=(s:Int)) (hy:y=(e:Int)):cutV xs (some z) (some y)=(xs.drop s).take (e-s):=by
 subst hz hy;unfold cutV;rw [HT.sIx_nat,HT.sIx_nat];by_cases h:s<xs.length
 ·rw [Lm (Lj h)]
  by_cases h2:e<=xs.length
  ·rw [Lm h2]
  ·rw [Nat.min_eq_right (by omega),Im (by rw [Hv];exact Go _),Im (by rw [Hv];omega)]
 ·rw [Hn (by omega),Hn (by omega)]
  simp
theorem lF {xs:List V} {z:Int} {s:Nat} (hz:z=(s:Int)):cutV xs (some z) none=xs.drop s:=by
 subst hz;unfold cutV;rw [HT.sIx_nat,HT.sIx_none];by_cases h:s<xs.length
 ·rw [Lm (Lj h),Im (by rw [Hv];exact Go _)]
 ·rw [Hn (by omega),Hn (by omega)]
  simp
theorem fz {α β:Type} {f:α->β} {l:List α} {i:Nat} {y:β} (h:(l.map f)[i]?=some y):∃ x,l[i]?=some x/\y=f x:=by
 rw [Hh] at h;cases e:l[i]? with
 | none=>rw [e] at h;cases h
 | some c=>rw [e] at h;exact ⟨c,rfl,(Hd h).symm⟩
theorem FP {c:UInt8}:decide (vb c=V.int 10)=decide (c=LF):=by
 apply decide_eq_decide.mpr;constructor
 ·intro h
  exact vj (b:=LF) h
 ·intro h
  rw [h];rfl
structure TxL (K:Gh) (mg:G9->Option Gg):Prop where
 line_end:fW mg "LINE_END" 10
 most_bytes:fW mg "MOST_BYTES" 65536
 most_lines:fW mg "MOST_LINES" 2048
 len:mg "len"=none
 tuple:mg "tuple"=none
 enumerate:mg "enumerate"=none
 sum:mg "sum"=none
def oY (K:Gh):Sp:=fun vs H Q _=>∃ (a:Gf) (b:Gn),vs=[.ref a]/\SqL K H a (b.map vb)/\b.length<=sizeLine/\∀ (H':Hp) (p:Gf),eT H H'->H p=none->eS H' p (linesOf b)->Q (.ref p) H'
theorem wH:eM ["row","lines","start","place","value"] ["row"] (defScope kK):=mkSc
theorem C8 {f:Gf} {fd:GG} (F:Fun K "split_lines" "split_lines" kK f fd) (T:TxL K mg):ff P w K mg base (CXF P w) 11 f fd ["row"] (oY K):=by
 refine okN (k:=10) F wH fun cdv A outer s H vs Q E hr h=>?_
 ·obtain ⟨a,b,rfl,hS,sz,k⟩:=h
  have nd:=wH.nd;refine ⟨_,eE (eO (i:=1) nd U (Gy U) (fP eF))
   (eE (eO (i:=2) nd U (Gy U) eN)
   (eE (gQ Hz U (ET U T.enumerate (eA (pv 0) eF)) (lY U (fw (eZ (i:=3) nd U (Gy U)) (fw (eZ (i:=4) nd U (Gy U)) iX)))
    (eI (fF (eX io (pv 4) (fO T.line_end U) (fb _))
     (eE (fe (gm Gw HJ HI gG (pv 1) (eA (ly oo U T.tuple L0 (eA (fZ gy (pv 0) (fH (pv 2)) (fH (fA gx (pv 3) eN))) eF)) eF)))
      (eI (eO (i:=2) nd U (Gy U) (fA gx (pv 3) eN)))) eY)))
   (eE (fF (eX qP (pv 2) (eU eL U T.len Gz (eA (pv 0) eF)) (fb _))
     (eI (fe (gm Gw HJ HI gG (pv 1) (eA (ly oo U T.tuple L0 (eA (fZ gy (pv 0) (fH (pv 2)) nE) eF)) eF)))) eY)
   (eI (eP (pv 1)))))),?_⟩
  refine ⟨G5 _,fun l hl=>?_⟩
  have s0:eT H (upd H l (.lst [])):=eT.new (eT.refl H) hl;refine ⟨_,U,a,b.map vb,U,s0.seq hS,DT (K:=K) (a:=a) (xs:=b.map vb) (fun i σ H'=>∃ (st:Nat) (as:List Gf) (cs:List Gn) (v3 v4:Option V),σ=[some (.ref a),some (.ref l),some (.int st),v3,v4]/\eT H H' /\
   H' l=some (.lst (as.map V.ref))/\f9 H' as cs/\fJ cs/\joinedL cs=b.take st/\st<=i/\LF∉(b.drop st).take (i-st)/\cs.length<=st) ?_ ?_ ?_ ?_⟩
  ·exact ⟨0,[],[],none,none,U,s0,eC,f9.nil,Lb.kY,by simp [joinedL],Go _,by simp,Go _⟩
  ·rintro i σ H1 hi ⟨st,as,cs,v3,v4,rfl,s1,h1,h2,h3,h4,h5,h6,h7⟩
   exact s1.seq hS
  ·rintro i x σ H1 T hx ⟨st,as,cs,v3,v4,rfl,s1,h1,h2,h3,h4,h5,h6,h7⟩ nT
   obtain ⟨c,hc,rfl⟩:=fz hx;refine ⟨T,_,U,SqT.of eC,U,_,_,U,_,_,U,U,?_⟩;refine ⟨_,U,U,_,U,?_⟩;have s2:eT H (upd H1 T (.tup [.int (i:Nat),vb c])):=s1.new nT;have l2:upd H1 T (.tup [.int (i:Nat),vb c]) l=some (.lst (as.map V.ref)):=by rw [eK (eW h1 nT)];exact h1
   have k2:f9 (upd H1 T (.tup [.int (i:Nat),vb c])) as cs:=h2.same fun b xs e=>by rw [eK (eW e nT)];exact e
   have hi:i<b.length:=(Gj.mp hc).1;have hci:b[i]=c:=(Gj.mp hc).2;have grow:(b.drop st).take (i+1-st)=(b.drop st).take (i-st)++[c]:=by
    rw [show i+1-st=(i-st)+1 by omega,HP,J2,show st+(i-st)=i by omega,hc];rfl
   rw [FP];refine gh (fun hq=>?_) (fun hq=>?_)
   ·have hq:c=LF:=Gd hq
    refine ⟨_,U,.inl ⟨U,_,SqL.of l2⟩,_,U,_,U,_,U,_,U,_,_,U,U,_,U,a,b.map vb,U,s2.seq hS,fun p np=>?_⟩
    refine ⟨p,_,U,.inl ⟨SqL.of eC,fun t nt=>?_⟩⟩
    have l3:=(L2.upN (o := .tup (cutV (b.map vb) (some (st:Int)) (some ((i:Int)+1)))) nt) _ _ (L2.upN np _ _ l2);have k3:f9 _ as cs:=(k2.same (L2.upN (o := .lst (cutV (b.map vb) (some (st:Int)) (some ((i:Int)+1)))) np).tups).same (L2.upN (o := .tup (cutV (b.map vb) (some (st:Int)) (some ((i:Int)+1)))) nt).tups;have ec:cutV (b.map vb) (some (st:Int)) (some ((i:Int)+1))=((b.drop st).take (i+1-st)).map vb:=by
     exact (i7 (s:=st) (e:=i+1) U U).trans (by rw [IT,Il])
    refine ⟨l,_,_,U,U,l3,(by rw [Ge,h2.len];omega),?_⟩;refine ⟨_,U,_,_,U,U,i+1,as++[t],cs++[(b.drop st).take (i+1-st)],_,_,U,((s2.new np).new nt).own hl,?_,?_,?_,?_,Go _,?_,?_⟩
    ·rw [eC,Gr]
     rfl
    ·refine (k3.snoc (a:=t) ?_).same (L2.mn l3)
     rw [eC,ec]
    ·refine h3.append fun x hx=>?_
     rw [G7.mp hx,grow,hq];exact ⟨_,h6,U⟩
    ·rw [Lb.f7,h4]
     show b.take st++joinedL [(b.drop st).take (i+1-st)]=_;have e1:joinedL [(b.drop st).take (i+1-st)]=(b.drop st).take (i+1-st):=by simp [joinedL]
     rw [e1,← List.take_add,show st+(i+1-st)=i+1 by omega]
    ·simp
    ·simp;omega
   ·have hq:¬ c=LF:=fun z=>hq (Gb z)
    refine ⟨st,as,cs,_,_,U,s2,l2,k2,h3,h4,by omega,?_,h7⟩;rw [grow];intro z;rcases HS.mp z with z | z
    ·exact h6 z
    ·exact hq (G7.mp z).symm
  ·rintro σ H1 ⟨st,as,cs,v3,v4,rfl,s1,h1,h2,h3,h4,h5,h6,h7⟩
   rw [Ge] at h5 h6;refine ⟨_,U,_,U,a,b.map vb,U,.inl (s1.seq hS),_,_,U,U,_,U,?_⟩;have e0:b=joinedL cs++b.drop st:=by rw [h4,JE]
   have e1:(b.drop st).take (b.length-st)=b.drop st:=Im (by rw [Hv];exact Go _);rw [e1] at h6;have e2:=Lb.Bo h3 h6 e0;refine gh (fun hq=>?_) (fun hq=>?_)
   ·have hq:(st:Int)<((b.map vb).length:Nat):=Gd hq
    rw [Ge] at hq;refine ⟨_,U,.inl ⟨U,_,SqL.of h1⟩,_,U,_,U,_,U,a,b.map vb,U,s1.seq hS,fun p np=>?_⟩
    refine ⟨p,_,U,.inl ⟨SqL.of eC,fun t nt=>?_⟩⟩
    have l3:=(L2.upN (o := .tup (cutV (b.map vb) (some (st:Int)) none)) nt) _ _ (L2.upN np _ _ h1);have k3:f9 _ as cs:=(h2.same (L2.upN (o := .lst (cutV (b.map vb) (some (st:Int)) none)) np).tups).same (L2.upN (o := .tup (cutV (b.map vb) (some (st:Int)) none)) nt).tups;have ec:cutV (b.map vb) (some (st:Int)) none=(b.drop st).map vb:=by rw [lF (s:=st) rfl,Il]
    refine ⟨l,_,_,U,U,l3,(by rw [Ge,h2.len];omega),?_⟩;refine ⟨_,U,?_⟩;rw [F9 (by intro z;have:=congrArg Ih z;simp at this;omega)] at e2;refine k _ l (((s1.new np).new nt).own hl) hl ⟨as++[t],?_,?_⟩
    ·rw [eC,Gr]
     rfl
    ·rw [e2]
     refine (k3.snoc (a:=t) ?_).same (L2.mn l3);rw [eC,ec]
   ·have hq:¬ (st:Int)<((b.map vb).length:Nat):=fun z=>hq (Gb z)
    rw [Ge] at hq;refine ⟨_,U,?_⟩;rw [Ga (Hn (by omega))] at e2;exact k _ l s1 hl ⟨as,h1,by rw [e2];exact h2⟩
def qi (K:Gh):Sp:=fun vs H Q _=>∃ (p:Gf) (ls:List Gn),vs=[.ref p]/\eS H p ls/\(joinedL ls).length<=sizeLine/\∀ (H':Hp) (q:Gf),eT H H'->H q=none->H' q=some (.lst ((joinedL ls).map vb))->Q (.ref q) H'
def lacks (b:Gn):Bool:=decide (b≠[]) && isOpen b
def qY (K:Gh):Sp:=fun vs H Q _=>∃ (a:Gf) (b:Gn),vs=[.ref a]/\(SqL K H a (b.map vb)∨SqT K H a (b.map vb))/\Q (.bl (lacks b)) H
def lastLacks (ls:List Gn):Bool:=(ls.getLast?.map lacks).getD false
def ye (K:Gh):Sp:=fun vs H Q _=>∃ (p:Gf) (ls:List Gn),vs=[.ref p]/\eS H p ls/\Q (.bl (lastLacks ls)) H
def zC (K:Gh):Sp:=fun vs H Q _=>∃ (a:Gf) (b:Gn),vs=[.ref a]/\SqL K H a (b.map vb)/\Q (.int ((linesOf b).length:Nat)) H
def zy (K:Gh):Sp:=fun vs H Q _=>∃ (a:Gf) (b:Gn),vs=[.ref a]/\SqL K H a (b.map vb)/\Q (.bl (!isText b)) H
def wD (K:Gh):Sp:=fun vs H Q _=>∃ (p:Gf) (ls:List Gn),vs=[.ref p]/\eS H p ls/\fj ls/\ls.length<=sizeLine/\∀ H':Hp,eT H H'->Q (.bl (!isText (joinedL ls))) H'
theorem zQ:eM ["lines","row","line"] ["lines"] (defScope lR):=mkSc
theorem xt {ls:List Gn} {i:Nat} {l:Gn} (h:ls[i]?=some l):joinedL (ls.take (i+1))=joinedL (ls.take i)++l:=by
 rw [HP,h,Lb.f7];simp [joinedL]
theorem Ff {f:Gf} {fd:GG} (F:Fun K "join_lines" "join_lines" lR f fd) (T:TxL K mg):ff P w K mg base (CXF P w) 11 f fd ["lines"] (qi K):=by
 refine okN (k:=10) F zQ fun cdv A outer s H vs Q E hr h=>?_
 ·obtain ⟨p,ls,rfl,⟨as,hp,hl⟩,sz,k⟩:=h
  have nd:=zQ.nd;refine ⟨_,eE (eO (i:=1) nd U (Gy U) (fP eF))
   (eE (gQ Hz U (gr (pv 0)) (eZ (i:=2) nd U (Gy U))
    (eI (fe (gm Gw Hc Hb Ah (pv 1) (eA (pv 2) eF)))))
   (eI (eP (pv 1)))),?_⟩
  refine ⟨G5 _,fun q nq=>?_⟩
  have s0:eT H (upd H q (.lst [])):=L2.upN nq;refine ⟨_,U,p,U,⟨_,SqL.of (s0 _ _ hp)⟩,gW (K:=K) (a:=p) (xs:=as.map V.ref) (fun i σ H'=>∃ v:Option V,σ=[some (.ref p),some (.ref q),v]/\eT H H'/\H' q=some (.lst ((joinedL (ls.take i)).map vb)))
   ⟨none,rfl,s0,eC⟩ (fun i σ H' _ ⟨_,_,s1,_⟩=>SqL.of (s1 _ _ hp)) ?_ ?_⟩
  ·rintro i y σ H1 hi ⟨v,rfl,s1,h1⟩
   obtain ⟨a,ha,rfl⟩:=fz hi;obtain ⟨l,el,eh⟩:=hl.ofGet ha;have jt:=xt el;have jl:(joinedL (ls.take (i+1))).length<=(joinedL ls).length:=Lb.Bs (List.take_sublist _ _);refine ⟨_,U,.inl ⟨U,_,SqL.of h1⟩,_,U,q,a,_,_,U,U,h1,SqT.of (s1 _ _ eh),?_,_,U,s1.own nq,?_⟩
   ·rw [jt,Gi] at jl
    rw [Ge,Ge];omega
   ·rw [eC,jt,Gr]
  ·rintro σ H1 ⟨v,rfl,s1,h1⟩
   refine ⟨_,U,k H1 q s1 nq ?_⟩;rw [Ge,hl.len,Ib] at h1;exact h1
theorem Co:eM ["row"] ["row"] (defScope mC):=mkSc
theorem Dm {f:Gf} {fd:GG} (F:Fun K "lacks_end" "lacks_end" mC f fd) (T:TxL K mg):ff P w K mg base (CXF P w) 1 f fd ["row"] (qY K):=by
 refine okN (k:=0) F Co fun cdv A outer s H vs Q E hr h=>?_
 ·obtain ⟨a,b,rfl,hS,k⟩:=h
  refine ⟨_,eI (eP (sE (gC jg (eU eL U T.len Gz (eA (pv 0) eF)) eN (fb _)) (mI (gC op_ne (fM ix_seq (pv 0) (uC qf eN) (fun _ _=>U)) (fO T.line_end U) (fb _))))),?_⟩
  refine ⟨_,U,a,b.map vb,U,hS,_,_,U,U,_,U,?_⟩;refine gh (fun hq=>?_) (fun hq=>?_)
  ·have hq:(0:Int)<((b.map vb).length:Nat):=Gd hq
   rw [Ge] at hq;have hb:b≠[]:=by intro z;rw [z] at hq;simp at hq
   obtain ⟨i,c,rfl⟩:∃ i c,b=i++[c]:=⟨b.dropLast,b.getLast hb,(JC hb).symm⟩;have ei:atI ((i++[c]).map vb) (-1)=some (vb c):=by
    rw [Gr];exact pX _ _
   refine ⟨_,U,_,U,?_⟩;have fin:rNe (vb c) (.int 10) H Q:=by
    refine ⟨U,?_⟩;rw [FP];have e:lacks (i++[c]) = !decide (c=LF):=by
     unfold lacks isOpen;simp;rfl
    rw [← e];exact k
   rcases hS with hS | hS
   ·exact .inl ⟨a,_,_,_,U,U,hS,ei,fin⟩
   ·exact .inr (.inl ⟨a,_,_,_,U,U,hS,ei,fin⟩)
  ·have hq:¬ (0:Int)<((b.map vb).length:Nat):=fun z=>hq (Gb z)
   rw [Ge] at hq;have hb:b=[]:=HQ.mp (by omega);subst hb;exact k
theorem ED:eM ["lines"] ["lines"] (defScope jj):=mkSc
theorem Fd {f:Gf} {fd:GG} (F:Fun K "last_lacks_end" "last_lacks_end" jj f fd) (T:TxL K mg) (G:Fn P w K mg base 1 "lacks_end" ["row"] (qY K)):ff P w K mg base (CXF P w) 2 f fd ["lines"] (ye K):=by
 refine okN (k:=1) F ED fun cdv A outer s H vs Q E hr h=>?_
 ·obtain ⟨p,ls,rfl,⟨as,hp,hl⟩,k⟩:=h
  refine ⟨_,eI (eP (sE (gC jg (eU eL U T.len Gz (eA (pv 0) eF)) eN (fb _)) (mI (eV G hr U eG (eA (fM fm (pv 0) (uC qf eN) (fun _ _=>U)) eF))))),?_⟩
  refine ⟨_,U,p,_,U,.inl (SqL.of hp),_,_,U,U,_,U,?_⟩;refine gh (fun hq=>?_) (fun hq=>?_)
  ·have hq:(0:Int)<((as.map V.ref).length:Nat):=Gd hq
   rw [Ge,hl.len] at hq;have hb:ls≠[]:=by intro z;rw [z] at hq;simp at hq
   obtain ⟨ms,l,rfl⟩:∃ ms l,ls=ms++[l]:=⟨ls.dropLast,ls.getLast hb,(JC hb).symm⟩;have ha:as≠[]:=by intro z;have:=hl.len;rw [z] at this;simp at this
   obtain ⟨bs,a,rfl⟩:∃ bs a,as=bs++[a]:=⟨as.dropLast,as.getLast ha,(JC ha).symm⟩;have el:bs.length=ms.length:=by have:=hl.len;simpa using this
   have eh:H a=some (.tup (l.map vb)):=hl.at_ bs.length a l (by simp) (by rw [el];simp);have ei:atI ((bs++[a]).map V.ref) (-1)=some (V.ref a):=by
    rw [Gr];exact pX _ _
   refine ⟨_,U,_,U,p,_,_,_,U,U,SqL.of hp,ei,a,l,U,.inr (SqT.of eh),?_⟩;have e:lastLacks (ms++[l])=lacks l:=by unfold lastLacks;simp
   rw [← e];exact k
  ·have hq:¬ (0:Int)<((as.map V.ref).length:Nat):=fun z=>hq (Gb z)
   rw [Ge,hl.len] at hq;have hb:ls=[]:=HQ.mp (by omega);subst hb;exact k
theorem wQ:eM ["row","ends"] ["row"] (defScope kQ):=mkSc
theorem vi (b:Gn):b.map vb=(b.map fun c=>(c.toNat:Int)).map V.int:=by
 rw [Ic];rfl
theorem D7 (b:Gn):(b.map fun c=>(c.toNat:Int)).count 10=b.count LF:=by
 induction b with
 | nil=>rfl
 | cons x b ih =>
  rw [Hs,List.count_cons,List.count_cons,ih];congr 1;by_cases h:x=LF
  ·subst h;rfl
  ·have h2:¬ ((x.toNat:Int)=10):=fun z=>h (vj (b:=LF) (by unfold vb;exact congrArg V.int z))
   rw [F9 (by simpa using h2),F9 (by simpa using h)]
theorem Du {f:Gf} {fd:GG} (F:Fun K "count_lines" "count_lines" kQ f fd) (T:TxL K mg) (G:Fn P w K mg base 1 "lacks_end" ["row"] (qY K)):ff P w K mg base (CXF P w) 2 f fd ["row"] (zC K):=by
 refine okN (k:=1) F wQ fun cdv A outer s H vs Q E hr h=>?_
 ·obtain ⟨a,b,rfl,hS,k⟩:=h
  refine ⟨_,eE (eO (i:=1) wQ.nd U (Gy U) (gm Gw PySem.F.slot_list_count PySem.F.type_list_count tP (pv 0) (eA (fO T.line_end U) eF)))
   (eI (eP (ko (kj (eV G hr U eG (eA (pv 0) eF))) (fA gx (pv 1) eN) (pv 1)))),?_⟩
  have hS':=hS;rw [vi] at hS';refine ⟨_,U,.inl ⟨U,_,hS⟩,a,10,_,U,U,hS',?_⟩;rw [D7];refine ⟨_,U,a,b,U,.inl hS,_,U,?_⟩;have e:=Lb.iN b;refine gh (fun hq=>?_) (fun hq=>?_)
  ·refine ⟨_,U,_,_,U,U,?_⟩
   unfold lacks at hq;rw [G8] at hq;rw [Ga ⟨Gd hq.1,hq.2⟩] at e;rw [e] at k;exact k
  ·refine ⟨_,U,?_⟩
   rw [F9 fun z=>hq (by unfold lacks;rw [G8];exact ⟨Gb z.1,z.2⟩),Nat.add_zero] at e
   rw [e] at k;exact k
theorem Cn:eM ["row"] ["row"] (defScope jZ):=mkSc
theorem Dl {f:Gf} {fd:GG} (F:Fun K "is_too_large" "is_too_large" jZ f fd) (T:TxL K mg) (G:Fn P w K mg base 2 "count_lines" ["row"] (zC K)):ff P w K mg base (CXF P w) 3 f fd ["row"] (zy K):=by
 refine okN (k:=2) F Cn fun cdv A outer s H vs Q E hr h=>?_
 ·obtain ⟨a,b,rfl,hS,k⟩:=h
  refine ⟨_,eI (eP (CT (gC jg (eU eL U T.len Gz (eA (pv 0) eF)) (fO T.most_bytes U) (fb _)) (mI (gC jg (eV G hr U eG (eA (pv 0) eF)) (fO T.most_lines U) (fb _))))),?_⟩;refine ⟨_,U,a,b.map vb,U,.inl hS,_,_,U,U,_,U,?_⟩;rw [Ge];have e:isText b=(decide (b.length<=65536) && decide ((linesOf b).length<=2048)):=rfl;refine gh (fun hq=>?_) (fun hq=>?_)
  ·have hq:(65536:Int)<(b.length:Nat):=Gd hq
   rw [e,show decide (b.length<=65536)=false from Gc (by omega)] at k;exact k
  ·have hq:¬ (65536:Int)<(b.length:Nat):=fun z=>hq (Gb z)
   refine ⟨_,U,a,b,U,hS,_,_,U,U,?_⟩;rw [e,show decide (b.length<=65536)=true from Gb (by omega),LL] at k;have e2:(!decide ((linesOf b).length<=2048))=decide ((2048:Int)<((linesOf b).length:Nat)):=by
    by_cases z:(linesOf b).length<=2048
    ·rw [Gb z,Gc (by omega)];rfl
    ·rw [Gc z,Gb (by omega)];rfl
   rw [e2] at k;exact k
theorem BD:bootBuiltins "sum"=some (.builtin "sum"):=by decide +kernel
section
variable {X:Cx} {K:Gh}
def rLen (K:Gh):List V->Hp->VK->Prop:=fun xs H Q=>∃ p ys,xs=[.ref p]/\(SqL K H p ys∨SqT K H p ys)/\Q (.int ys.length) H
theorem li {σ:L2.St} {H:Hp} {A B:Hp->Prop} (h:A H):tYes σ H (fun b H3=>if b=true then A H3 else B H3):=by
 show (if true=true then A H else B H)
 rw [Ga rfl];exact h
theorem uU (h:X.K=K):mo X (.builtin "len") (rLen K):=by
 subst h;exact eL
theorem Ca (h:X.K=K):SlR X (rSlL K):=by
 subst h;exact gy
end
theorem ww:∀ ls:List Gn,(ls.map fun l=>(l.length:Int)).sum=(((ls.map Ih).sum:Nat):Int)
 | []=>rfl
 | x::ls=>by rw [Hs,Hs,List.sum_cons,List.sum_cons,ww ls,Int.natCast_add]
theorem uq:eM ["lines","line"] ["lines"] (defScope iw):=mkSc
theorem A9 {f:Gf} {fd:GG} (F:Fun K "are_too_large" "are_too_large" iw f fd) (T:TxL K mg):ff P w K mg base (CXF P w) 11 f fd ["lines"] (wD K):=by
 refine okN (k:=10) F uq fun cdv A outer s H vs Q E hr h=>?_
 ·obtain ⟨p,ls,rfl,⟨as,hp,hl⟩,L,sz,k⟩:=h
  have nd:=uq.nd;refine ⟨_,eI (eP (CT (gC jg (eU eL U T.len Gz (eA (pv 0) eF)) (fO T.most_lines U) (fb _))
   (mI (gC jg (eU (cr_sum U) U T.sum BD (eA (qL (own:=[("line",1)]) U nd (gr (pv 0)) (iq (N:=["lines","line"]) (sc:=defScope iw) (by decide +kernel)) (fun _ _ _ _ _=>eZ (i:=1) nd U (Gy U)) (fun _ _ _ _ _=>lX) (fun _ _ _ _ _=>eU (uU (K:=K) U) U T.len Gz (eA (pv 1) eF))) eF)) (fO T.most_bytes U) (fb _))))),?_⟩
  have e:isText (joinedL ls)=(decide (ls.length<=2048) && decide ((ls.map Ih).sum<=65536)):=Lb.vM L;refine ⟨_,U,p,_,U,.inl (SqL.of hp),_,_,U,U,_,U,?_⟩;rw [Ge,hl.len];refine gh (fun hq=>?_) (fun hq=>?_)
  ·have hq:(2048:Int)<(ls.length:Nat):=Gd hq
   rw [e,show decide (ls.length<=2048)=false from Gc (by omega)] at k;exact k H (eT.refl H)
  ·have hq:¬ (2048:Int)<(ls.length:Nat):=fun z=>hq (Gb z)
   refine ⟨_,U,p,U,⟨_,SqL.of hp⟩,fun D nD=>?_⟩
   refine nM (K:=K) (a:=p) (xs:=as.map V.ref) (fun i H'=>eT H H'/\H' D=some (.lst (((ls.take i).map fun l=>(l.length:Int)).map V.int))) ⟨L2.upN nD,eC⟩ (fun i H' _ ⟨s1,_⟩=>SqL.of (s1 _ _ hp)) ?_ ?_
   ·rintro i x H1 hi ⟨s1,h1⟩
    obtain ⟨a,ha,rfl⟩:=fz hi;obtain ⟨l,el,eh⟩:=hl.ofGet ha;have hlt:=(Gj.mp el).1;refine ⟨U,li ?_⟩;refine ⟨_,U,a,_,U,.inr (SqT.of (s1 _ _ eh)),_,h1,?_,s1.own nD,?_⟩
    ·rw [Ge,Ge,HF]
     omega
    ·rw [eC,HP,el,Gr,Gr,Ge]
     rfl
   ·rintro H1 ⟨s1,h1⟩
    rw [Ge,hl.len,Ib] at h1;refine ⟨D,_,U,SqL.of h1,_,_,U,U,?_⟩;have es:=ww ls;rw [es];have e2:(!(decide (ls.length<=2048) && decide ((ls.map Ih).sum<=65536)))=decide ((65536:Int)<((ls.map Ih).sum:Nat)):=by
     rw [Gb (show ls.length<=2048 by omega),LL];by_cases z:(ls.map Ih).sum<=65536
     ·rw [Gb z,Gc (by omega)];rfl
     ·rw [Gc z,Gb (by omega)];rfl
    have q:=k H1 s1;rw [e,e2] at q;exact q
def dInts (l:Gn):List HZ:=l.map fun c => .int c.toNat
def g9 (l:Gn):HZ := .tuple (dInts l)
def kC (ls:List Gn):HZ := .list (ls.map g9)
theorem vT {K:Gh} {H:Hp}:∀ l:Gn,qS K H (l.map vb) (dInts l)
 | [] => .nil
 | c::l => .cons (.int _) (vT l)
theorem pS {K:Gh} {H:Hp} {a:Gf} {l:Gn} (h:H a=some (.tup (l.map vb))):Dp K H (.ref a) (g9 l) := .tup (SqT.of h) (vT l)
theorem DY {K:Gh} {H:Hp}:∀ {as:List Gf} {ls:List Gn},f9 H as ls->qS K H (as.map V.ref) (ls.map g9)
 | [],[],_ => .nil
 | [],_::_,h=>by have:=h.len;simp at this
 | _::_,[],h=>by have:=h.len;simp at this
 | a::as,l::ls,h => .cons (pS (h.at_ 0 a l rfl rfl)) (DY ⟨by have:=h.len;simpa using this,fun i b m e1 e2=>h.at_ (i+1) b m (by simpa using e1) (by simpa using e2)⟩)
theorem lE {K:Gh} {H:Hp} {p:Gf} {ls:List Gn} (h:eS H p ls):Dp K H (.ref p) (kC ls):=by
 obtain ⟨as,e,hl⟩:=h;exact .lst (SqL.of e) (DY hl)
theorem sU:∀ l m:Gn,Jy (dInts l) (dInts m)=decide (l=m)
 | [],[]=>rfl
 | [],_::_=>by simp [dInts,Jy]
 | _::_,[]=>by simp [dInts,Jy]
 | x::l,y::m=>by
  have i:=sU l m;show (Kf (.int x.toNat) (.int y.toNat) && Jy (dInts l) (dInts m))=_;rw [i];have e:Kf (.int x.toNat) (.int y.toNat)=decide (x=y):=by
   show ((x.toNat:Int) == (y.toNat:Int))=_;by_cases h:x=y
   ·subst h;simp
   ·rw [Gc h]
    exact beq_eq_false_iff_ne.mpr fun z=>h (vj (by unfold vb;rw [z]))
  rw [e];by_cases h:x=y <;> by_cases g:l=m <;> simp [h,g]
theorem sT (l m:Gn):Kf (g9 l) (g9 m)=decide (l=m):=sU l m
theorem Au:∀ ls ms:List Gn,Jy (ls.map g9) (ms.map g9)=decide (ls=ms)
 | [],[]=>rfl
 | [],_::_=>by simp [Jy]
 | _::_,[]=>by simp [Jy]
 | x::l,y::m=>by
  have i:=Au l m;show (Kf (g9 x) (g9 y) && Jy (l.map g9) (m.map g9))=_;rw [i,sT];by_cases h:x=y <;> by_cases g:l=m <;> simp [h,g]
theorem qD (ls ms:List Gn):Kf (kC ls) (kC ms)=decide (ls=ms):=Au ls ms
theorem pJ:∀ l:Gn,IY (dInts l)=true
 | []=>rfl
 | c::l=>by
  show (HZ.canLay0 (.int c.toNat) && IY (dInts l))=true;rw [pJ l];rfl
theorem qE:∀ l:Gn,Jw (dInts l)=0
 | []=>rfl
 | c::l=>by
  show max (K8 (.int c.toNat)) (Jw (dInts l))=0;rw [qE l];rfl
theorem uT (l:Gn):K8 (g9 l)=1:=by
 show Jw (dInts l)+1=1;rw [qE]
theorem kH (l:Gn):Jj (g9 l)=true:=by
 unfold Jj;rw [uT];show (IY (dInts l) && decide (1<=64))=true;rw [pJ];rfl
theorem Ak:∀ ls:List Gn,IY (ls.map g9)=true
 | []=>rfl
 | l::ls=>by
  show (IY (dInts l) && IY (ls.map g9))=true;rw [Ak ls,pJ];rfl
theorem xF:∀ ls:List Gn,Jw (ls.map g9)<=1
 | []=>G5 _
 | l::ls=>by
  have:=xF ls;show max (K8 (g9 l)) (Jw (ls.map g9))<=1;rw [uT];omega
theorem yP (ls:List Gn):K8 (kC ls)<=2:=by
 have:=xF ls;show Jw (ls.map g9)+1<=2;omega
theorem ie (ls:List Gn):Jj (kC ls)=true:=by
 unfold Jj;rw [Gb (Ie (yP ls) (by decide))];show (IY (ls.map g9) && true)=true;rw [Ak];rfl
def keyOf (l:Gn):List L2.Key:=l.map fun c=>Hm (c.toNat:Int)
theorem nQ (l:Gn):(keyOf l).map kV=l.map vb:=by
 unfold keyOf;rw [Ic];rfl
theorem Bp {a b:Gn} (h:keyOf a=keyOf b):a=b:=zd (by rw [← nQ,← nQ,h])
def FN (H:Hp) (d:Gf) (a:List Gn):Prop:=∃ kvs:List (List L2.Key×V),H d=some (.dT kvs)/\∀ y:Gn,(valV kvs (keyOf y)).getD (.int 0) = .int (bv (eqsOf a y):Nat)
def zu (K:Gh):Sp:=fun vs H Q _=>∃ (p:Gf) (a:List Gn),vs=[.ref p]/\eS H p a/\a.length<=1000000/\∀ (H':Hp) (d:Gf),eT H H'->H d=none->FN H' d a->Q (.ref d) H'
structure TxW (K:Gh) (mg:G9->Option Gg):Prop where
 len:mg "len"=none
 min:mg "min"=none
 range:mg "range"=none
 reversed:mg "reversed"=none
theorem FD (xs:List Bool):bv (true::xs)=2 ^ xs.length+bv xs:=by simp [bv]
theorem Eb (xs:List Bool):bv (false::xs)=bv xs:=by simp [bv]
theorem or_top {i:Nat} {r:Nat} (h:r<2 ^ i):JR (r:Int) (2 ^ i)=((2 ^ i+r:Nat):Int):=by
 have e:(2:Int) ^ i=1*2 ^ i:=by rw [Int.one_mul]
 have hp:(r:Int)<2 ^ i:=by rw [Jp];omega
 rw [e,Bits.bitOr_join (by omega) hp (by omega),Int.one_mul,Jp];omega
theorem Ee (i:Nat):JH ((2:Int) ^ i)<=i+1:=by
 rw [Jp];refine intBits_le_iff.mpr ?_;rw [Int.natAbs_natCast,Kc];have:=KD i;omega
theorem wM:eM ["old","masks","bit","line"] ["old"] (defScope lQ):=mkSc
theorem Di {f:Gf} {fd:GG} (F:Fun K "line_masks" "line_masks" lQ f fd) (T:TxW K mg):ff P w K mg base (CXF P w) 11 f fd ["old"] (zu K):=by
 refine okN (k:=10) F wM fun cdv A outer s H vs Q E hr h=>?_
 ·obtain ⟨p,ls,rfl,⟨as,hp,hl⟩,sz,k⟩:=h
  have nd:=wM.nd;have hu:=uM hr;refine ⟨_,eE (eO (i:=1) nd U (Gy U) CY)
   (eE (eO (i:=2) nd U (Gy U) eN)
   (eE (gQ Hz U (mH U T.reversed (eA (pv 0) eF)) (eZ (i:=3) nd U (Gy U))
    (eE (rh hu (pv 1) (pv 3) (fA FY (w8 hu (pv 1) (pv 3) eN ⟨U,U,U,U⟩) (pv 2)) U)
     (eI (eO (i:=2) nd U (Gy U) (fA Af (pv 2) eN)))))
   (eI (eP (pv 1))))),?_⟩
  intro d nD;have s0:eT H (upd H d (.dT [])):=L2.upN nD;refine ⟨_,U,p,_,U,SqL.of (s0 _ _ hp),vP (K:=K) (a:=p) (xs:=as.map V.ref) (fun i σ H'=>∃ (v:Option V) (kvs:List (List L2.Key×V)),σ=[some (.ref p),some (.ref d),some (.int (2 ^ i)),v]/\eT H H'/\H' d=some (.dT kvs)/\kvs.length<=i /\
   ∀ y:Gn,(valV kvs (keyOf y)).getD (.int 0) = .int (bv (eqsOf (ls.drop (ls.length-i)) y):Nat)) ?_ ?_ ?_ ?_⟩
  ·refine ⟨none,[],U,s0,eC,Go _,fun y=>?_⟩
   rw [Nat.sub_zero,Ik];rfl
  ·rintro i σ H1 _ ⟨v,kvs,rfl,s1,_⟩
   exact SqL.of (s1 _ _ hp)
  ·rintro i x σ H1 hi hx ⟨v,kvs,rfl,s1,h1,h2,h3⟩
   rw [Ge] at hi hx;obtain ⟨a,ha,rfl⟩:=fz hx;obtain ⟨l,el,eh⟩:=hl.ofGet ha;rw [hl.len] at hi el;have e1:H1 a=some (.tup ((keyOf l).map kV)):=by rw [nQ];exact s1 _ _ eh
   have dr:ls.drop (ls.length-(i+1))=l::ls.drop (ls.length-i):=by
    have hlt:ls.length-1-i<ls.length:=by omega
    rw [show ls.length-(i+1)=ls.length-1-i by omega,GX hlt,show ls.length-1-i+1=ls.length-i by omega];rw [Gk hlt] at el;rw [Hd el]
   have ln:(eqsOf (ls.drop (ls.length-i)) l).length=i:=by
    simp [eqsOf];omega
   have blt:bv (eqsOf (ls.drop (ls.length-i)) l)<2 ^ i:=by
    have:=Lb.xJ (eqsOf (ls.drop (ls.length-i)) l);rw [ln] at this;exact this
   refine ⟨_,U,d,U,.inr ⟨kvs,.inl h1⟩,_,U,valV kvs (keyOf l),lh.t h1 e1,?_⟩;rw [h3 l];refine ⟨_,U,_,_,U,U,_,U,_,U,d,_,U,tS.t h1 e1 (by rw [Hj];omega),?_⟩;refine ⟨_,U,_,_,U,U,?_,?_⟩
   ·refine ⟨by decide,?_⟩
    have:=Ee i;show (JH ((2:Int) ^ i):Int)+1<=2 ^ 27;omega
   ·refine ⟨some (.ref a),putK kvs (keyOf l) (.int (JR (bv (eqsOf (ls.drop (ls.length-i)) l):Nat) (2 ^ i))),?_,s1.own nD,eC,?_,fun y=>?_⟩
    ·show [some (V.ref p),some (V.ref d),some (V.int ((2:Int) ^ i*2 ^ (1:Int).toNat)),some (V.ref a)]=_
     rw [show (2:Int) ^ i*2 ^ (1:Int).toNat=2 ^ (i+1) from (Int.pow_succ 2 i).symm]
    ·have:=jy kvs (keyOf l) (.int (JR (bv (eqsOf (ls.drop (ls.length-i)) l):Nat) (2 ^ i)))
     omega
    ·rw [oU,dr]
     by_cases hy:keyOf y=keyOf l
     ·have e:=Bp hy
      subst e;rw [Ga rfl];show V.int _=V.int ((bv (decide (y=y)::eqsOf (ls.drop (ls.length-i)) y):Nat):Int);rw [Gb rfl,FD,ln,or_top blt]
     ·rw [F9 hy,h3 y]
      show V.int _=V.int ((bv (decide (l=y)::eqsOf (ls.drop (ls.length-i)) y):Nat):Int);rw [Gc (fun z=>hy (by rw [z])),Eb]
  ·rintro σ H1 ⟨v,kvs,rfl,s1,h1,h2,h3⟩
   rw [Ge,hl.len,Jz,Ip] at h3;exact ⟨_,U,k H1 d s1 nD ⟨kvs,h1,h3⟩⟩
def rowsV (a b:List Gn):List V:=(IR b.length).map fun j=>V.int (bv (bitsOf a (b.drop j)):Nat)
def BS (K:Gh):Sp:=fun vs H Q _=>∃ (p q:Gf) (a b:List Gn),vs=[.ref p,.ref q]/\eS H p a/\eS H q b/\a.length<=1000000/\b.length<=1000000/\∀ (H':Hp) (r:Gf),eT H H'->H r=none->H' r=some (.lst (rowsV a b))->Q (.ref r) H'
theorem zY (a:List Gn) (y:Gn) (m:List Gn):Ii (JR (((bv (bitsOf a m):Nat):Int)+Ii (bv (bitsOf a m):Nat) (bv (eqsOf a y):Nat)) (((bv (bitsOf a m):Nat):Int)-Ii (bv (bitsOf a m):Nat) (bv (eqsOf a y):Nat))) (2 ^ a.length-1)=(bv (bitsOf a (y::m)):Nat):=by
 have e1:Ii ((bv (bitsOf a m):Nat):Int) ((bv (eqsOf a y):Nat):Int)=((bv (bitsOf a m) &&& bv (eqsOf a y):Nat):Int):=by
  rw [bitAnd_pp (by omega) (by omega)];rfl
 have le:bv (bitsOf a m) &&& bv (eqsOf a y)<=bv (bitsOf a m):=Nat.and_le_left;rw [e1];have e2:((bv (bitsOf a m):Nat):Int)-((bv (bitsOf a m) &&& bv (eqsOf a y):Nat):Int)=((bv (bitsOf a m)-(bv (bitsOf a m) &&& bv (eqsOf a y)):Nat):Int):=by omega
 have e3:((bv (bitsOf a m):Nat):Int)+((bv (bitsOf a m) &&& bv (eqsOf a y):Nat):Int)=((bv (bitsOf a m)+(bv (bitsOf a m) &&& bv (eqsOf a y)):Nat):Int):=by omega
 rw [e2,e3,Bits.bitOr_pp (by omega) (by omega),HE,HE];have e4:(2:Int) ^ a.length-1=((2 ^ a.length-1:Nat):Int):=by
  have:=KD a.length;rw [Jp];omega
 rw [e4,bitAnd_pp (by omega) (by omega),HE,HE,Lb.CB]
theorem CD (a b:List Gn):((IR b.length).map fun j=>V.int (bv (bitsOf a (b.drop (b.length-1-j))):Nat)).reverse=rowsV a b:=by
 unfold rowsV;apply List.ext_getElem?;intro i;by_cases h:i<b.length
 ·rw [List.getElem?_reverse (by simpa using h),Hh,Hh,Ge,LW]
  rw [LH (by omega),LH h];show some (V.int ((bv (bitsOf a (b.drop (b.length-1-(b.length-1-i)))):Nat):Int))=some (V.int ((bv (bitsOf a (b.drop i)):Nat):Int));rw [show b.length-1-(b.length-1-i)=i by omega]
 ·rw [Jh (by simp;omega),Jh (by simp;omega)]
theorem zL:eM ["old","new","masks","full","row","rows","line","same"] ["old","new"] (defScope jk):=mkSc
theorem E6 {f:Gf} {fd:GG} (F:Fun K "droppable_rows" "droppable_rows" jk f fd) (T:TxW K mg) (G:Fn P w K mg base 11 "line_masks" ["old"] (zu K)):ff P w K mg base (CXF P w) 12 f fd ["old","new"] (BS K):=by
 refine okN (k:=11) F zL fun cdv A outer s H vs Q E hr h=>?_
 ·obtain ⟨p,q,a,b,rfl,⟨as,hp,hl⟩,⟨bs,hq,hm⟩,sz,sz2,k⟩:=h
  have nd:=zL.nd;have hu:=uM hr;refine ⟨_,eE (eO (i:=2) nd U (Gy U) (eV G hr U eG (eA (pv 0) eF)))
   (eE (eO (i:=3) nd U (Gy U) (fA iG (fA Af eN (eU eL U T.len Gz (eA (pv 0) eF))) eN))
   (eE (eO (i:=4) nd U (Gy U) (pv 3))
   (eE (eO (i:=5) nd U (Gy U) (fP eF))
   (eE (gQ Hz U (mH U T.reversed (eA (pv 1) eF)) (eZ (i:=6) nd U (Gy U))
    (eE (eO (i:=7) nd U (Gy U) (fA vL (pv 4) (w8 hu (pv 2) (pv 6) eN ⟨U,U,U,U⟩)))
    (eE (eO (i:=4) nd U (Gy U) (fA vL (fA FY (fA gx (pv 4) (pv 7)) (fA iG (pv 4) (pv 7))) (pv 3)))
     (eI (fe (gm Gw HJ HI gG (pv 5) (eA (pv 4) eF)))))))
   (eE (fe (pe_bm0 Gw PySem.F.slot_list_reverse PySem.F.type_list_reverse yF (pv 5)))
   (eI (eP (pv 5)))))))),?_⟩
  refine ⟨_,U,p,a,U,⟨as,hp,hl⟩,sz,fun H1 d s1 nd' ⟨kvs,hd,hk⟩=>?_⟩
  refine ⟨_,U,p,_,U,.inl (SqL.of (s1 _ _ hp)),_,_,U,U,⟨?_,?_⟩,_,_,U,U,?_⟩
  ·show (0:Int)<=((as.map V.ref).length:Nat)
   omega
  ·have e:JH (1:Int)<=1:=intBits_le_iff.mpr (by decide)
   rw [Ge,hl.len];show (JH (1:Int):Int)+(a.length:Nat)<=2 ^ 27;omega
  have ef:(1:Int)*2 ^ (((as.map V.ref).length:Nat):Int).toNat-1=2 ^ a.length-1:=by
   rw [HE,Ge,hl.len,Int.one_mul]
  refine ⟨_,U,G5 _,fun r nr=>?_⟩
  have s2:eT H (upd H1 r (.lst [])):=s1.new nr;have nr0:H r=none:=s1.free nr;refine ⟨_,U,q,_,U,SqL.of (s2 _ _ hq),vP (K:=K) (a:=q) (xs:=bs.map V.ref) (fun i σ H'=>∃ (v6 v7:Option V),σ=[some (.ref p),some (.ref q),some (.ref d),some (.int (2 ^ a.length-1)),some (.int (bv (bitsOf a (b.drop (b.length-i))):Nat)),some (.ref r),v6,v7]/\eT H H' /\
   H' d=some (.dT kvs)/\H' r=some (.lst ((IR i).map fun j=>V.int (bv (bitsOf a (b.drop (b.length-1-j))):Nat)))) ?_ ?_ ?_ ?_⟩
  ·refine ⟨none,none,?_,s2,L2.upN nr _ _ hd,eC⟩
   rw [Nat.sub_zero,Ik,Lb.EI];have:=KD a.length;show [some (V.ref p),some (V.ref q),some (V.ref d),some (V.int ((1:Int)*2 ^ (((as.map V.ref).length:Nat):Int).toNat-1)),some (V.int ((1:Int)*2 ^ (((as.map V.ref).length:Nat):Int).toNat-1)),some (V.ref r),none,none]=_;rw [ef,show ((2:Int) ^ a.length-1)=((2 ^ a.length-1:Nat):Int) by rw [Jp];omega]
  ·rintro i σ H2 _ ⟨v6,v7,rfl,s3,_⟩
   exact SqL.of (s3 _ _ hq)
  ·rintro i x σ H2 hi hx ⟨v6,v7,rfl,s3,h1,h2⟩
   rw [Ge] at hi hx;obtain ⟨c,hc,rfl⟩:=fz hx;obtain ⟨l,el,eh⟩:=hm.ofGet hc;rw [hm.len] at hi el;have e1:H2 c=some (.tup ((keyOf l).map kV)):=by rw [nQ];exact s3 _ _ eh
   have dr:b.drop (b.length-(i+1))=l::b.drop (b.length-i):=by
    have hlt:b.length-1-i<b.length:=by omega
    rw [show b.length-(i+1)=b.length-1-i by omega,GX hlt,show b.length-1-i+1=b.length-i by omega];rw [Gk hlt] at el;rw [Hd el]
   refine ⟨_,U,_,U,d,U,.inr ⟨kvs,.inl h1⟩,_,U,valV kvs (keyOf l),lh.t h1 e1,?_⟩;rw [hk l];refine ⟨_,_,U,U,?_⟩;refine ⟨_,U,_,U,_,_,U,U,_,U,_,U,_,_,U,U,_,_,U,U,_,U,_,_,U,U,?_⟩;refine ⟨_,U,.inl ⟨U,_,SqL.of h2⟩,_,U,r,_,_,U,U,h2,?_,?_⟩
   ·rw [Ge,LW,Hj]
    omega
   ·refine ⟨some (.ref c),some (.int (Ii (bv (bitsOf a (b.drop (b.length-i))):Nat) (bv (eqsOf a l):Nat))),?_,s3.own nr0,?_,?_⟩
    ·show [some (V.ref p),some (V.ref q),some (V.ref d),some (V.int (2 ^ a.length-1)),some (V.int _),some (V.ref r),some (V.ref c),some (V.int _)]=_
     rw [zY,← dr]
    ·rw [eK (fG h1 h2 (by intro z;cases z))]
     exact h1
    ·rw [eC,Kw,Gr]
     show some (HO.lst (_++[V.int _]))=some (HO.lst (_++[V.int _]));rw [zY,← dr,show b.length-(i+1)=b.length-1-i by omega]
  ·rintro σ H2 ⟨v6,v7,rfl,s3,h1,h2⟩
   rw [Ge,hm.len] at h2;refine ⟨_,U,.inl ⟨U,_,SqL.of h2⟩,r,_,U,U,h2,?_⟩;refine ⟨_,U,k _ r (s3.own nr0) nr0 ?_⟩;rw [eC,CD]
structure jC {α:Type} (f:α->List V) (H:Hp) (as:List Gf) (xs:List α):Prop where
 len:as.length=xs.length
 at_:∀ (i:Nat) (a:Gf) (x:α),as[i]?=some a->xs[i]?=some x->H a=some (.tup (f x))
def yV {α:Type} (f:α->List V) (H:Hp) (p:Gf) (xs:List α):Prop:=∃ as:List Gf,H p=some (.lst (as.map V.ref))/\jC f H as xs
section
variable {α:Type} {f:α->List V} {H H':Hp} {as:List Gf} {xs:List α}
theorem jC.same (h:jC f H as xs) (k:∀ a ts,H a=some (.tup ts)->H' a=some (.tup ts)):jC f H' as xs:=⟨h.len,fun i a x e1 e2=>k _ _ (h.at_ i a x e1 e2)⟩
theorem jC.nil:jC f H [] []:=⟨rfl,fun i a x e _=>by simp at e⟩
theorem jC.snoc {a:Gf} {x:α} (h:jC f H as xs) (e:H a=some (.tup (f x))):jC f H (as++[a]) (xs++[x]):=by
 refine ⟨by simp [h.len],fun i b m e1 e2=>?_⟩
 by_cases hi:i<as.length
 ·rw [G6 hi] at e1
  rw [G6 (by rw [← h.len];exact hi)] at e2;exact h.at_ i b m e1 e2
 ·have h1:=(Gj.mp e1).1
  have:i=as.length:=by simp at h1;omega
  subst this;rw [Hg (Go _)] at e1;rw [h.len,Hg (Go _)] at e2;simp at e1 e2;subst e1 e2;exact e
theorem jC.ofGet (h:jC f H as xs) {i:Nat} {a:Gf} (e:as[i]?=some a):∃ x,xs[i]?=some x/\H a=some (.tup (f x)):=by
 have hi:i<xs.length:=by rw [← h.len];exact (Gj.mp e).1
 exact ⟨xs[i],Gk hi,h.at_ i a _ e (Gk hi)⟩
end
def fPair (x:Nat×Nat):List V:=[.int x.1,.int x.2]
abbrev rK (H:Hp) (p:Gf) (ps:List (Nat×Nat)):Prop:=yV fPair H p ps
def zG (K:Gh):Sp:=fun vs H Q _=>∃ (p q:Gf) (a b:List Gn),vs=[.ref p,.ref q]/\eS H p a/\eS H q b/\∀ k:Nat,sx a b k->Q (.int k) H
def qW (K:Gh):Sp:=fun vs H Q _=>∃ (p q:Gf) (a b:List Gn),vs=[.ref p,.ref q]/\eS H p a/\eS H q b/\a.length<=1000000/\b.length<=1000000/\∀ (H':Hp) (r:Gf),eT H H'->H r=none->rK H' r (pairsOf a b)->Q (.ref r) H'
theorem wR:eM ["old","new","most","count"] ["old","new"] (defScope lL):=mkSc
theorem DA {f:Gf} {fd:GG} (F:Fun K "same_ahead" "same_ahead" lL f fd) (T:TxW K mg):ff P w K mg base (CXF P w) 11 f fd ["old","new"] (zG K):=by
 refine okN (k:=10) F wR fun cdv A outer s H vs Q E hr h=>?_
 ·obtain ⟨p,q,a,b,rfl,⟨as,hp,hl⟩,⟨bs,hq,hm⟩,k⟩:=h
  have nd:=wR.nd;refine ⟨_,eE (eO (i:=2) nd U (Gy U) (eU (BA U) U T.min PyProof.Rows.boot_min (eA (eU eL U T.len Gz (eA (pv 0) eF)) (eA (eU eL U T.len Gz (eA (pv 1) eF)) eF))))
   (eE (eO (i:=3) nd U (Gy U) eN)
   (eE (mF Hz (qu (eX qP (pv 3) (pv 2) (fb _)) (ny (eX (sG hr.units) (fM fm (pv 0) (pv 3) (fun _ _=>U)) (fM fm (pv 1) (pv 3) (fun _ _=>U)) (fb _)))).pt
    (eI (qv (i:=3) nd U (Gy U) eN qC)))
   (eI (eP (pv 3))))),?_⟩
  refine ⟨_,U,p,_,U,.inl (SqL.of hp),_,U,q,_,U,.inl (SqL.of hq),_,_,U,?_⟩;have em:(if (((bs.map V.ref).length:Nat):Int)<((as.map V.ref).length:Nat) then (((bs.map V.ref).length:Nat):Int) else ((as.map V.ref).length:Nat))=((min a.length b.length:Nat):Int):=by
   rw [Ge,Ge,hl.len,hm.len];split <;> omega
  refine ⟨fun m σ H1=>∃ c:Nat,σ=[some (.ref p),some (.ref q),some (.int (min a.length b.length:Nat)),some (.int c)]/\H1=H/\sx a b c/\m=min a.length b.length-c,⟨_,0,?_,U,⟨G5 _,G5 _,fun i hi=>absurd hi (by omega)⟩,U⟩,?_⟩
  ·show [some (V.ref p),some (V.ref q),some (V.int (if (((bs.map V.ref).length:Nat):Int)<((as.map V.ref).length:Nat) then (((bs.map V.ref).length:Nat):Int) else ((as.map V.ref).length:Nat))),some (V.int 0)]=_
   rw [em];rfl
  ·rintro m σ H1 ⟨c,rfl,rfl,sc,rfl⟩
   refine ⟨_,U,_,U,_,_,U,U,_,U,?_⟩;refine gh (fun h1=>?_) (fun h1=>?_)
   ·have h1:(c:Int)<(min a.length b.length:Nat):=Gd h1
    have ca:c<a.length:=by omega
    have cb:c<b.length:=by omega
    obtain ⟨x,hx,ex⟩:=hl.get (Gk ca);obtain ⟨y,hy,ey⟩:=hm.get (Gk cb);refine ⟨_,U,_,U,p,_,_,_,U,U,SqL.of hp,gE (v:=V.ref x) (by rw [Hh,hx];rfl),_,U,_,U,q,_,_,_,U,U,SqL.of hq,gE (v:=V.ref y) (by rw [Hh,hy];rfl),
     g9 a[c],g9 b[c],pS ex,pS ey,kH _,kH _,_,rfl,?_⟩
    rw [sT];refine gh (fun h2=>?_) (fun h2=>?_)
    ·have h2:a[c]=b[c]:=Gd h2
     refine ⟨fun σ' H'=>σ'=[some (.ref p),some (.ref q),some (.int (min a.length b.length:Nat)),some (.int ((c+1:Nat):Int))]/\H'=H1,fun σ' H' z=>⟨min a.length b.length-(c+1),by omega,c+1,z.1,z.2,⟨by omega,by omega,fun i hi=>?_⟩,U⟩,?_⟩
     ·by_cases e:i<c
      ·exact sc.2.2 i e
      ·have:i=c:=by omega
       subst this;rw [Gk ca,Gk cb,h2]
     ·exact ⟨_,U,_,_,U,U,U,U⟩
    ·exact ⟨_,U,k c sc⟩
   ·exact (F9 (by decide)).mpr ⟨_,U,k c sc⟩
theorem FI (r k:Nat):decide (V.int (Ii ((r:Int) / 2 ^ k) 1)=V.int 1)=r.testBit k:=by
 have hp:=KD k;have e:(r:Int) / 2 ^ k=((r / 2 ^ k:Nat):Int):=by rw [Jp];exact (Int.natCast_ediv _ _).symm
 rw [bitAnd_m1,e,Nat.testBit_eq_decide_div_mod_eq];apply decide_eq_decide.mpr;constructor
 ·intro h
  injection h with h
  omega
 ·intro h
  congr 1;omega
theorem wK:eM ["old","new","ahead","pairs","rows","last","i","j","place"] ["old","new"] (defScope jK):=mkSc
theorem De {f:Gf} {fd:GG} (F:Fun K "kept_pairs" "kept_pairs" jK f fd) (T:TxW K mg) (G1:Fn P w K mg base 11 "same_ahead" ["old","new"] (zG K)) (G2:Fn P w K mg base 12 "droppable_rows" ["old","new"] (BS K)):ff P w K mg base (CXF P w) 13 f fd ["old","new"] (qW K):=by
 refine okN (k:=12) F wK fun cdv A outer s H vs Q E hr h=>?_
 ·obtain ⟨p,q,a,b,rfl,⟨as,hp,hl⟩,⟨bs,hq,hm⟩,sz,sz2,k⟩:=h
  have nd:=wK.nd;have hr1:fi 11 _:=hr.mono (by decide);refine ⟨_,eE (eO (i:=2) nd U (Gy U) (eV G1 hr1 U eG (eA (pv 0) (eA (pv 1) eF))))
   (eE (wZ (i:=3) (own:=[("place",8)]) U nd U U (zi U U U U) (A0 U T.range (eA (pv 2) eF)) (iq (N:=["old","new","ahead","pairs","rows","last","i","j","place"]) (sc:=defScope jK) (by decide +kernel)) (fun _ _ _ _ _=>eZ (i:=8) nd U (Gy U)) (fun _ _ _ _ _=>lX) (fun _ _ _ _ _=>iE (eA (pv 8) (eA (pv 8) eF))))
   (eE (eO (i:=4) nd U (Gy U) (eV G2 hr U eG (eA (fZ gy (pv 0) (fH (pv 2)) nE) (eA (fZ gy (pv 1) (fH (pv 2)) nE) eF))))
   (eE (eO (i:=5) nd U (Gy U) (fA iG (eU eL U T.len Gz (eA (pv 0) eF)) eN))
   (eE (eO (i:=6) nd U (Gy U) (pv 2))
   (eE (eO (i:=7) nd U (Gy U) (pv 2))
   (eE (mF Hz (PW.pt (qu (eX qP (pv 6) (eU eL U T.len Gz (eA (pv 0) eF)) (fb _)) (ny (eX qP (pv 7) (eU eL U T.len Gz (eA (pv 1) eF)) (fb _)))))
    (eI (fF (eX (sG hr.units) (fM fm (pv 0) (pv 6) (fun _ _=>U)) (fM fm (pv 1) (pv 7) (fun _ _=>U)) (fb _))
     (eE (fe (gm Gw HJ HI gG (pv 3) (eA (iE (eA (pv 6) (eA (pv 7) eF))) eF)))
     (eE (qv (i:=6) nd U (Gy U) eN qC) (eI (qv (i:=7) nd U (Gy U) eN qC))))
     (eI (fF (eX io (fA vL (fA C2 (fM fm (pv 4) (fA iG (pv 7) (pv 2)) (fun _ _=>U)) (fA iG (pv 5) (pv 6))) eN) eN (fb _))
      (eI (qv (i:=6) nd U (Gy U) eN qC))
      (eI (qv (i:=7) nd U (Gy U) eN qC)))))))
   (eI (eP (pv 3))))))))),?_⟩
  refine ⟨_,U,_,U,p,q,a,b,U,⟨as,hp,hl⟩,⟨bs,hq,hm⟩,fun n hn=>?_⟩
  obtain ⟨n1,n2,n3⟩:=id hn;refine ⟨_,U,_,U,(by omega),(by omega),fun D nD=>?_⟩
  refine DM (lo:=0) (n:=((n:Nat):Int).toNat) (fun i H'=>eT H H'/\rK H' D ((IR i).map fun x=>(x,x))) ⟨L2.upN nD,[],eC,jC.nil⟩ ?_ ?_
  ·rintro i H1 hi ⟨s1,ts,h1,h2⟩
   rw [HE] at hi;refine ⟨U,li ?_⟩;refine ⟨_,rfl,_,rfl,(by show 2<=sizeLine;decide),fun t nt=>?_⟩
   have h1':=L2.upN (o := .tup [.int (0+(i:Int)),.int (0+(i:Int))]) nt _ _ h1;refine ⟨_,h1',?_,(s1.new nt).own nD,ts++[t],?_,?_⟩
   ·rw [Ge,h2.len,Ge,LW,Hj]
    omega
   ·rw [eC,Gr]
    rfl
   ·rw [Kw,Gr]
    refine ((h2.same (L2.upN nt).tups).snoc (a:=t) ?_).same (L2.mn h1');rw [eC];show some (HO.tup [V.int (0+(i:Int)),V.int (0+(i:Int))])=some (HO.tup [V.int i,V.int i]);rw [Int.zero_add]
  ·rintro H1 ⟨s1,ts,h1,h2⟩
   rw [HE] at h2;refine ⟨_,U,_,U,_,U,p,_,U,SqL.of (s1 _ _ hp),fun c nc=>?_⟩
   have s2:=s1.new (o := .lst (cutV (as.map V.ref) (some (n:Int)) none)) nc;refine ⟨_,U,_,U,_,U,q,_,U,SqL.of (s2 _ _ hq),fun d nd'=>?_⟩
   have s3:=s2.new (o := .lst (cutV (bs.map V.ref) (some (n:Int)) none)) nd';have lc:eS (upd (upd H1 c (.lst (cutV (as.map V.ref) (some (n:Int)) none))) d (.lst (cutV (bs.map V.ref) (some (n:Int)) none))) c (a.drop n):=by
    refine ⟨as.drop n,?_,(hl.drop n).same s3.tups⟩;rw [eK (eW eC nd'),eC,lF rfl,Il]
   have ld:eS (upd (upd H1 c (.lst (cutV (as.map V.ref) (some (n:Int)) none))) d (.lst (cutV (bs.map V.ref) (some (n:Int)) none))) d (b.drop n):=by
    refine ⟨bs.drop n,?_,(hm.drop n).same s3.tups⟩;rw [eC,lF rfl,Il]
   have hD3:=L2.upN (o := .lst (cutV (bs.map V.ref) (some (n:Int)) none)) nd' _ _ (L2.upN (o := .lst (cutV (as.map V.ref) (some (n:Int)) none)) nc _ _ h1);have ob3:=(h2.same (L2.upN (o := .lst (cutV (as.map V.ref) (some (n:Int)) none)) nc).tups).same (L2.upN (o := .lst (cutV (bs.map V.ref) (some (n:Int)) none)) nd').tups;refine ⟨c,d,a.drop n,b.drop n,U,lc,ld,(by rw [Hv];omega),(by rw [Hv];omega),fun H4 r s4 nr hR=>?_⟩
   have s5:eT H H4:=s3.trans s4;have nrD:r≠D:=fun z=>by rw [z,hD3] at nr;cases nr
   refine ⟨_,U,p,_,U,.inl (SqL.of (s5 _ _ hp)),_,_,U,U,?_⟩;refine ⟨_,U,_,U,?_⟩;refine ⟨fun m σ H5=>∃ (i j:Nat) (ps:List (Nat×Nat)) (v8:Option V),σ=[some (.ref p),some (.ref q),some (.int n),some (.ref D),some (.ref r),some (.int ((a.length:Int)-1)),some (.int i),some (.int j),v8]/\eT H H5/\H5 r=some (.lst (rowsV (a.drop n) (b.drop n))) /\
    rK H5 D ps/\ps++gD a b i j=pairsOf a b/\n<=i/\i<=a.length/\n<=j/\j<=b.length/\ps.length<=i/\m=(a.length-i)+(b.length-j),⟨_,n,n,(IR n).map fun x=>(x,x),none,?_,s5,hR,⟨ts,s4 _ _ hD3,ob3.same s4.tups⟩,Lb.qM a b n hn,Go _,n1,Go _,n2,by simp,rfl⟩,?_⟩
   ·show [some (V.ref p),some (V.ref q),some (V.int n),some (V.ref D),some (V.ref r),some (V.int ((((as.map V.ref).length:Nat):Int)-1)),some (V.int n),some (V.int n),none]=_
    rw [Ge,hl.len]
   ·rintro m σ H5 ⟨i,j,ps,v8,rfl,s6,hR5,⟨us,hD5,ob5⟩,hps,i1,i2,j1,j2,pl,rfl⟩
    have nr0:H D=none:=nD;refine ⟨_,U,_,U,p,_,U,.inl (SqL.of (s6 _ _ hp)),_,_,U,U,_,U,?_⟩;rw [Ge,hl.len];have done:a.length<=i∨b.length<=j->Q (.ref D) H5:=fun z=>by
     rw [Lb.xb a b i j z,Iq] at hps;exact k H5 D s6 nD ⟨us,hD5,by rw [← hps];exact ob5⟩
    refine gh (fun g1=>?_) (fun g1=>?_)
    ·have g1:(i:Int)<(a.length:Nat):=Gd g1
     have ia:i<a.length:=by omega
     refine ⟨_,U,_,U,q,_,U,.inl (SqL.of (s6 _ _ hq)),_,_,U,U,_,U,?_⟩;rw [Ge,hm.len];refine gh (fun g2=>?_) (fun g2=>?_)
     ·have g2:(j:Int)<(b.length:Nat):=Gd g2
      have jb:j<b.length:=by omega
      obtain ⟨x,hx,ex⟩:=hl.get (Gk ia);obtain ⟨y,hy,ey⟩:=hm.get (Gk jb);refine ⟨fun σ' H'=>∃ (i' j':Nat) (ps':List (Nat×Nat)),σ'=[some (.ref p),some (.ref q),some (.int n),some (.ref D),some (.ref r),some (.int ((a.length:Int)-1)),some (.int i'),some (.int j'),v8]/\eT H H'/\H' r=some (.lst (rowsV (a.drop n) (b.drop n))) /\
       rK H' D ps'/\ps'++gD a b i' j'=pairsOf a b/\n<=i'/\i'<=a.length/\n<=j'/\j'<=b.length/\ps'.length<=i'/\(a.length-i')+(b.length-j')<(a.length-i)+(b.length-j),fun σ' H' ⟨i',j',ps',z1,z2,z3,z4,z5,z6,z7,z8,z9,z10,z11⟩=>⟨_,z11,i',j',ps',v8,z1,z2,z3,z4,z5,z6,z7,z8,z9,z10,rfl⟩,?_⟩
      refine ⟨_,U,_,U,p,_,_,_,U,U,SqL.of (s6 _ _ hp),gE (v:=V.ref x) (by rw [Hh,hx];rfl),_,U,_,U,q,_,_,_,U,U,SqL.of (s6 _ _ hq),gE (v:=V.ref y) (by rw [Hh,hy];rfl),
       g9 a[i],g9 b[j],pS (s6 _ _ ex),pS (s6 _ _ ey),kH _,kH _,_,rfl,?_⟩
      rw [sT];refine gh (fun g3=>?_) (fun g3=>?_)
      ·have g3:a[i]=b[j]:=Gd g3
       refine ⟨_,rfl,.inl ⟨rfl,_,SqL.of hD5⟩,_,rfl,_,rfl,(by show 2<=sizeLine;decide),fun t nt=>?_⟩
       have hD6:=L2.upN (o := .tup [.int (i:Int),.int (j:Int)]) nt _ _ hD5;have hR6:=L2.upN (o := .tup [.int (i:Int),.int (j:Int)]) nt _ _ hR5;refine ⟨D,_,_,U,U,hD6,?_,?_⟩
       ·rw [Ge,ob5.len,Hj]
        omega
       ·refine ⟨_,U,_,_,U,U,_,U,_,_,U,U,i+1,j+1,ps++[(i,j)],U,(s6.new nt).own nD,?_,⟨us++[t],?_,?_⟩,?_,by omega,by omega,by omega,by omega,by simp;omega,by omega⟩
        ·rw [eK nrD]
         exact hR6
        ·rw [eC,Gr]
         rfl
        ·refine ((ob5.same (L2.upN nt).tups).snoc (a:=t) ?_).same (L2.mn hD6)
         rw [eC];rfl
        ·rw [Lb.pw a b i j ia jb g3] at hps
         rw [Hx];exact hps
      ·have g3:¬ a[i]=b[j]:=fun z=>g3 (Gb z)
       have hj:j-n<(b.drop n).length:=by rw [Hv];omega
       have er:(rowsV (a.drop n) (b.drop n))[j-n]?=some (V.int (bv (bitsOf (a.drop n) (b.drop j)):Nat)):=by
        unfold rowsV;rw [Hh,LH hj];show some (V.int ((bv (bitsOf (a.drop n) ((b.drop n).drop (j-n))):Nat):Int))=_;rw [IG,show n+(j-n)=j by omega]
       refine ⟨_,U,_,U,_,U,_,_,U,U,r,_,_,_,U,U,SqL.of hR5,at_of (j:=j-n) (by omega) er,_,U,_,U,_,_,U,U,_,_,U,U,?_,_,_,U,U,U,_,U,?_⟩
       ·show (0:Int)<=(a.length:Int)-1-i
        omega
       have sh:((a.length:Int)-1-(i:Int)).toNat=a.length-(i+1):=by omega
       have dA:(a.drop n).drop (i-n)=a[i]::a.drop (i+1):=by
        rw [IG,show n+(i-n)=i by omega,GX ia]
       have bt:=Lb.EJ (a.drop n) (b.drop j) (i-n) a[i] (a.drop (i+1)) dA;rw [Hv] at bt;show if decide (V.int (Ii (((bv (bitsOf (a.drop n) (b.drop j)):Nat):Int) / 2 ^ ((a.length:Int)-1-(i:Int)).toNat) 1)=V.int 1)=true then _ else _
       rw [sh,FI,bt,← GX ia];refine gh (fun g4=>?_) (fun g4=>?_)
       ·have g4:=Gd g4
        refine ⟨_,U,_,_,U,U,i+1,j,ps,U,s6,hR5,⟨us,hD5,ob5⟩,?_,by omega,by omega,by omega,by omega,by omega,by omega⟩;rw [← Lb.vK a b i j ia jb g3 g4];exact hps
       ·have g4:=fun z=>g4 (Gb z)
        refine ⟨_,U,_,_,U,U,i,j+1,ps,U,s6,hR5,⟨us,hD5,ob5⟩,?_,by omega,by omega,by omega,by omega,by omega,by omega⟩;rw [← Lb.vJ a b i j ia jb g3 g4];exact hps
     ·have g2:¬ (j:Int)<(b.length:Nat):=fun z=>g2 (Gb z)
      exact ⟨_,U,done (.inr (by omega))⟩
    ·have g1:¬ (i:Int)<(a.length:Nat):=fun z=>g1 (Gb z)
     exact (F9 (by decide)).mpr ⟨_,U,done (.inl (by omega))⟩
def fRun (r:Jt):List V:=[.int r.from_,.int r.dropped,.int r.place,.int r.taken]
abbrev wc (H:Hp) (p:Gf) (rs:List Jt):Prop:=yV fRun H p rs
def yd (K:Gh):Sp:=fun vs H Q _=>∃ (p q:Gf) (a b:List Gn),vs=[.ref p,.ref q]/\eS H p a/\eS H q b/\a.length<=1000000/\b.length<=1000000/\∀ (H':Hp) (r:Gf),eT H H'->H r=none->wc H' r (runsOf a b)->Q (.ref r) H'
theorem zJ:eM ["old","new","runs","i","j","kept_old","kept_new"] ["old","new"] (defScope jm):=mkSc
theorem E4 {f:Gf} {fd:GG} (F:Fun K "differing_runs" "differing_runs" jm f fd) (T:TxW K mg) (G:Fn P w K mg base 13 "kept_pairs" ["old","new"] (qW K)):ff P w K mg base (CXF P w) 14 f fd ["old","new"] (yd K):=by
 refine okN (k:=13) F zJ fun cdv A outer s H vs Q E hr h=>?_
 ·obtain ⟨p,q,a,b,rfl,⟨as,hp,hl⟩,⟨bs,hq,hm⟩,sz,sz2,k⟩:=h
  have nd:=zJ.nd;refine ⟨_,eE (eO (i:=2) nd U (Gy U) (fP eF))
   (eE (eO (i:=3) nd U (Gy U) eN)
   (eE (eO (i:=4) nd U (Gy U) eN)
   (eE (gQ Hz U (gr (fA l9 (eV G hr U eG (eA (pv 0) (eA (pv 1) eF))) (fP (eA (iE (eA (eU eL U T.len Gz (eA (pv 0) eF)) (eA (eU eL U T.len Gz (eA (pv 1) eF)) eF))) eF))))
    (lY U (fw (eZ (i:=5) nd U (Gy U)) (fw (eZ (i:=6) nd U (Gy U)) iX)))
    (eE (fF (PW.pt (wX (eX jg (pv 5) (pv 3) (fb _)) (sD (eX jg (pv 6) (pv 4) (fb _)))))
     (eI (fe (gm Gw HJ HI gG (pv 2) (eA (iE (eA (pv 3) (eA (fA iG (pv 5) (pv 3)) (eA (pv 4) (eA (fA iG (pv 6) (pv 4)) eF))))) eF)))) eY)
    (eE (eO (i:=3) nd U (Gy U) (fA gx (pv 5) eN)) (eI (eO (i:=4) nd U (Gy U) (fA gx (pv 6) eN))))))
   (eI (eP (pv 2)))))),?_⟩
  refine ⟨G5 _,fun r nr=>?_⟩
  have s0:eT H (upd H r (.lst [])):=L2.upN nr;refine ⟨_,U,_,U,p,q,a,b,U,⟨as,s0 _ _ hp,hl.same s0.tups⟩,⟨bs,s0 _ _ hq,hm.same s0.tups⟩,sz,sz2,fun H1 g s1 ng ⟨ts,hg,ob⟩=>?_⟩
  have s01:eT H H1:=s0.trans s1;refine ⟨_,rfl,p,_,rfl,.inl (SqL.of (s01 _ _ hp)),_,rfl,q,_,rfl,.inl (SqL.of (s01 _ _ hq)),(by show 2<=sizeLine;decide),fun e ne=>?_⟩
  refine ⟨(by show 1<=sizeLine;decide),fun c nc=>?_⟩
  have hg2:=L2.upN (o := .lst [.ref e]) nc _ _ (L2.upN (o := .tup [.int ((as.map V.ref).length:Nat),.int ((bs.map V.ref).length:Nat)]) ne _ _ hg);have pl:ts.length<=1000000:=by
   rw [ob.len];have:=Lb.iL (Lb.wayP a b) 0 0;rw [Lb.i8] at this;unfold Lb.pairsOf;omega
  refine ⟨g,c,_,_,U,U,hg2,eC,?_,fun d nd'=>?_⟩
  ·rw [Ge,Hj]
   show ts.length+1<=_;omega
  have s2:=((s01.new (o := .tup [.int ((as.map V.ref).length:Nat),.int ((bs.map V.ref).length:Nat)]) ne).new (o := .lst [.ref e]) nc).new (o := .lst (ts.map V.ref++[.ref e])) nd';have hr1:H1 r=some (.lst []):=s1 _ _ eC;have ob2:jC fPair (upd (upd (upd H1 e (.tup [.int ((as.map V.ref).length:Nat),.int ((bs.map V.ref).length:Nat)])) c (.lst [.ref e])) d (.lst (ts.map V.ref++[.ref e]))) (ts++[e]) (pairsOf a b++[(a.length,b.length)]):=by
   refine ((ob.same (L2.upN ne).tups).snoc (a:=e) ?_).same fun x xs z=>L2.upN nd' _ _ (L2.upN nc _ _ z)
   rw [eC,Ge,Ge,hl.len,hm.len];rfl
  have hd:upd (upd (upd H1 e (.tup [.int ((as.map V.ref).length:Nat),.int ((bs.map V.ref).length:Nat)])) c (.lst [.ref e])) d (.lst (ts.map V.ref++[.ref e])) d=some (.lst ((ts++[e]).map V.ref)):=by
   rw [eC,Gr];rfl
  have hr2:=L2.upN (o := .lst (ts.map V.ref++[.ref e])) nd' _ _ (L2.upN (o := .lst [.ref e]) nc _ _ (L2.upN (o := .tup [.int ((as.map V.ref).length:Nat),.int ((bs.map V.ref).length:Nat)]) ne _ _ hr1));generalize upd (upd (upd H1 e (.tup [.int ((as.map V.ref).length:Nat),.int ((bs.map V.ref).length:Nat)])) c (.lst [.ref e])) d (.lst (ts.map V.ref++[.ref e]))=H2 at s2 ob2 hd hr2;have drd:d≠r:=fun z=>by
   rw [z,hr2] at hd;have:=Hd hd;injection this with this
   simp at this
  generalize hP:pairsOf a b++[(a.length,b.length)]=PS at ob2;have up0:Up PS 0 0:=by rw [← hP];exact Lb.jr a b
  have ru:runsP PS 0 0=runsOf a b:=by rw [← hP];exact Lb.nh a b
  have PSl:PS.length<=1000001:=by
   rw [← ob2.len,Gi];show ts.length+1<=_;omega
  refine ⟨d,U,⟨_,SqL.of hd⟩,gW (K:=K) (a:=d) (xs:=(ts++[e]).map V.ref) (fun t σ H'=>∃ (i j:Nat) (rs:List Jt) (v5 v6:Option V),σ=[some (.ref p),some (.ref q),some (.ref r),some (.int i),some (.int j),v5,v6]/\eT H H'/\(∀ x xs,H2 x=some (.tup xs)->H' x=some (.tup xs))/\H' d=some (.lst ((ts++[e]).map V.ref)) /\
   wc H' r rs/\rs++runsP (PS.drop t) i j=runsOf a b/\Up (PS.drop t) i j/\rs.length<=t) ?_ ?_ ?_ ?_⟩
  ·exact ⟨0,0,[],none,none,U,s2,fun _ _ z=>z,hd,⟨[],hr2,jC.nil⟩,ru,up0,Go _⟩
  ·rintro t σ H' _ ⟨i,j,rs,v5,v6,rfl,s3,kt,hd',_⟩
   exact SqL.of hd'
  ·rintro t x σ H' hx ⟨i,j,rs,v5,v6,rfl,s3,kt,hd',⟨us,hr',obr⟩,e1,e2,e3⟩
   obtain ⟨y,hy,rfl⟩:=fz hx;obtain ⟨⟨c1,c2⟩,hc,hh⟩:=ob2.ofGet hy;have ht:=(Gj.mp hc).1;have dr:PS.drop t=(c1,c2)::PS.drop (t+1):=by
    rw [GX ht,(Gj.mp hc).2]
   rw [dr] at e1 e2;obtain ⟨u1,u2,u3⟩:=e2;refine ⟨y,_,U,SqT.of (kt _ _ hh),U,_,_,U,_,_,U,U,?_⟩;refine ⟨_,U,_,U,_,_,U,U,_,U,?_⟩;have eR:runsP ((c1,c2)::PS.drop (t+1)) i j=(if i<c1∨j<c2 then [⟨i,c1-i,j,c2-j⟩] else [])++runsP (PS.drop (t+1)) (c1+1) (c2+1):=rfl
   rw [eR] at e1;have take:(i<c1∨j<c2)->∀ (D:tI),D.nx=(fun σ H'=>∃ (i j:Nat) (rs:List Jt) (v5 v6:Option V),σ=[some (.ref p),some (.ref q),some (.ref r),some (.int i),some (.int j),v5,v6]/\eT H H'/\(∀ x xs,H2 x=some (.tup xs)->H' x=some (.tup xs))/\H' d=some (.lst ((ts++[e]).map V.ref)) /\
     wc H' r rs/\rs++runsP (PS.drop (t+1)) i j=runsOf a b/\Up (PS.drop (t+1)) i j/\rs.length<=t+1)->True:=fun _ _ _=>trivial
   have put:(i<c1∨j<c2)->∀ tt,H' tt=none->(∃ (i' j':Nat) (rs:List Jt) (v5 v6:Option V),[some (V.ref p),some (.ref q),some (.ref r),some (.int ((c1:Int)+1)),some (.int ((c2:Int)+1)),some (.int (c1:Int)),some (.int (c2:Int))]=[some (.ref p),some (.ref q),some (.ref r),some (.int i'),some (.int j'),v5,v6] /\
     eT H (upd (upd H' tt (.tup [.int i,.int ((c1:Int)-i),.int j,.int ((c2:Int)-j)])) r (.lst (us.map V.ref++[.ref tt])))/\(∀ x xs,H2 x=some (.tup xs)->(upd (upd H' tt (.tup [.int i,.int ((c1:Int)-i),.int j,.int ((c2:Int)-j)])) r (.lst (us.map V.ref++[.ref tt]))) x=some (.tup xs)) /\
     (upd (upd H' tt (.tup [.int i,.int ((c1:Int)-i),.int j,.int ((c2:Int)-j)])) r (.lst (us.map V.ref++[.ref tt]))) d=some (.lst ((ts++[e]).map V.ref)) /\
     wc (upd (upd H' tt (.tup [.int i,.int ((c1:Int)-i),.int j,.int ((c2:Int)-j)])) r (.lst (us.map V.ref++[.ref tt]))) r rs/\rs++runsP (PS.drop (t+1)) i' j'=runsOf a b/\Up (PS.drop (t+1)) i' j'/\rs.length<=t+1):=by
    intro hc1 tt ntt;have hr3:=L2.upN (o := .tup [.int i,.int ((c1:Int)-i),.int j,.int ((c2:Int)-j)]) ntt _ _ hr';have hd3:=L2.upN (o := .tup [.int i,.int ((c1:Int)-i),.int j,.int ((c2:Int)-j)]) ntt _ _ hd';refine ⟨c1+1,c2+1,rs++[⟨i,c1-i,j,c2-j⟩],_,_,U,(s3.new ntt).own nr,fun x xs z=>L2.mn hr3 _ _ (L2.upN ntt _ _ (kt _ _ z)),?_,⟨us++[tt],?_,?_⟩,?_,u3,by simp;omega⟩
    ·rw [eK drd]
     exact hd3
    ·rw [eC,Gr]
     rfl
    ·refine ((obr.same (L2.upN ntt).tups).snoc (a:=tt) ?_).same (L2.mn hr3)
     rw [eC];show some (HO.tup [V.int i,V.int ((c1:Int)-i),V.int j,V.int ((c2:Int)-j)])=some (HO.tup [V.int i,V.int ((c1-i:Nat):Int),V.int j,V.int ((c2-j:Nat):Int)]);rw [show ((c1-i:Nat):Int)=(c1:Int)-i by omega,show ((c2-j:Nat):Int)=(c2:Int)-j by omega]
    ·rw [Ga hc1] at e1
     rw [Hx];exact e1
   have pa:(i<c1∨j<c2)->us.length<sizeLine:=fun _=>by
    rw [obr.len,Hj];omega
   refine gh (fun g1=>?_) (fun g1=>?_)
   ·have g1:(i:Int)<(c1:Nat):=Gd g1
    refine (Ga U).mpr ?_;refine ⟨_,rfl,.inl ⟨rfl,_,SqL.of hr'⟩,_,rfl,_,rfl,_,rfl,_,_,rfl,rfl,_,rfl,_,rfl,_,rfl,_,_,rfl,rfl,(by show 4<=sizeLine;decide),fun tt ntt=>?_⟩
    refine ⟨r,_,_,U,U,L2.upN ntt _ _ hr',by rw [Ge];exact pa (.inl (by omega)),?_⟩;exact ⟨_,U,_,_,U,U,_,U,_,_,U,U,put (.inl (by omega)) tt ntt⟩
   ·have g1:¬ (i:Int)<(c1:Nat):=fun z=>g1 (Gb z)
    refine ⟨_,U,_,U,_,_,U,U,_,U,?_⟩;refine gh (fun g2=>?_) (fun g2=>?_)
    ·have g2:(j:Int)<(c2:Nat):=Gd g2
     refine ⟨_,rfl,.inl ⟨rfl,_,SqL.of hr'⟩,_,rfl,_,rfl,_,rfl,_,_,rfl,rfl,_,rfl,_,rfl,_,rfl,_,_,rfl,rfl,(by show 4<=sizeLine;decide),fun tt ntt=>?_⟩
     refine ⟨r,_,_,U,U,L2.upN ntt _ _ hr',by rw [Ge];exact pa (.inr (by omega)),?_⟩;exact ⟨_,U,_,_,U,U,_,U,_,_,U,U,put (.inr (by omega)) tt ntt⟩
    ·have g2:¬ (j:Int)<(c2:Nat):=fun z=>g2 (Gb z)
     rw [F9 (by omega)] at e1;exact ⟨_,U,_,_,U,U,_,U,_,_,U,U,c1+1,c2+1,rs,_,_,U,s3,kt,hd',⟨us,hr',obr⟩,e1,u3,by omega⟩
  ·rintro σ H' ⟨i,j,rs,v5,v6,rfl,s3,kt,hd',hr',e1,e2,e3⟩
   rw [Ge,ob2.len,Ik] at e1;have e1:rs++[]=runsOf a b:=e1;rw [Iq] at e1;exact ⟨_,U,k H' r s3 nr (by rw [← e1];exact hr')⟩
def vx (K:Gh):Sp:=fun vs H Q _=>∃ n:Nat,vs=[.int n]/\∀ (H':Hp) (l:Gf),eT H H'->H l=none->H' l=some (.lst ((HR 4 n).map vb))->Q (.ref l) H'
theorem vb_of (m:Nat):vb (J1 (m % 256)) = .int ((m % 256:Nat):Int):=by
 unfold vb;rw [Lb.mx _ (Nat.mod_lt _ (by decide))]
theorem q0 (n k:Nat):V.int (Ii ((n:Int) / 2 ^ k) 255)=vb (J1 (n / 2 ^ k % 256)):=by
 rw [vb_of,bitAnd_m8,Jp];rfl
theorem le4_vb (n:Nat):(HR 4 n).map vb=[0,8,16,24].map fun k=>V.int (Ii ((n:Int) / 2 ^ k) 255):=by
 rw [Lb.le4];show [vb _,vb _,vb _,vb _]=[V.int _,V.int _,V.int _,V.int _];rw [q0,q0,q0,q0,show 2 ^ 0=1 from rfl,Nat.div_one]
def xf (k p:Int):List (G9×V):=[("kind",.int k),("place",.int p)]
def qZ (C:Gf):Sp:=fun vs H Q _=>∃ (e t:Gf) (k p:Int),vs=[.ref e,.int k,.int p]/\H e=some (qH C e t none)/\∀ dx,H dx=none->dx≠e->Q .non (upd (upd H e (qH C e t (some dx))) dx (qa dx (xf k p)))
structure gU (P:Hk) (w:Hy) (K:Gh) (mg:G9->Option Gg) (base:GZ) (C:Gf):Prop where
 at_:mg "Fault"=some (.ref C)
 ex:∃ (fI:Gf) (fd:GG),qU K C fI ["kind","place"]/\jh K fd ["self","kind","place"] []/\ff P w K mg base (CXF P w) 1 fI fd ["self","kind","place"] (qZ C)
def je (C:Gf) (E:XK) (k p:Int) (H:Hp):Prop:=∀ (H':Hp) (dx:Gf),eT H H'->H' dx=some (qa dx (xf k p))->E (.ref C) (some dx) H'
theorem je.of {C:Gf} {E:XK} {k p:Int} {H H1:Hp} (h:je C E k p H) (s:eT H H1):je C E k p H1:=fun H' dx s1 e=>h H' dx (s.trans s1) e
theorem iW {C:Gf} {E:XK} {k p:Int} {H:Hp} (h:je C E k p H):([V.int k,V.int p]:List V).length<=sizeLine/\∀ ea t0,H ea=none->qZ C (.ref ea::[.int k,.int p]) (upd H ea (qH C ea t0 none)) (fun v H2=>v = .non/\∃ dx,H2 ea=some (qH C ea t0 (some dx))/\E (.ref C) (some dx) (del H2 ea)) E0:=by
 refine ⟨by show 2<=sizeLine;decide,fun ea t0 n=>⟨ea,t0,k,p,rfl,eC,fun dx nd ne=>⟨rfl,dx,?_,?_⟩⟩⟩
 ·rw [eK (HA ne),eC]
 ·rw [eK ne] at nd
  refine h _ dx (fun b o e=>?_) ?_
  ·rw [gj (eW e n),eK (eW e nd),eK (eW e n),eK (eW e n)]
   exact e
  ·rw [gj ne,eC]
section
variable {X:Cx} {C:Gf} {E:XK} {np cpos pos:Kv} {e:HM} {es:List HM} {t:TA}
theorem hZ (FO:gU X.prog X.w X.K X.mg X.base C) (hr:fi 2 X.A) (hh:X.A.handled=none) (hg:Gl X "Fault") (th:yW X C E) (ha:PA X (e::es) t) (hex:X.ex=[]:=by rfl)
  (he:starEach (e::es) X.env=(false,eval e X.env)::starEach es X.env:=by rfl) (hpl:(backTo cpos (starEach es X.env)).any (·.1)=false:=by rfl) :
  PS X (.Raise (some (.Call (.Name "Fault" np) (e::es) [] cpos)) none pos) (BP C (qZ C) E t):=by
 obtain ⟨fI,fd,h1,h2,h3⟩:=FO.ex;exact CO h1 h3 hr hh hg FO.at_ h2 th ha hex (by decide) he hpl
end
def rf (a:Gf) (n:Int):List (G9×V):=putF "at" (.int n) (putF "row" (.ref a) [])
def gT (C:Gf) (H:Hp) (r a:Gf) (n:Nat):Prop:=∃ dx,H r=some (.ins C dx (rf a n))
theorem vA (a:Gf) (n:Int):(rf a n).lookup ("row":G9)=some (.ref a):=by
 unfold rf;rw [eJ,F9 (by decide +kernel),eJ,Ga rfl]
theorem kh (a:Gf) (n:Int):(rf a n).lookup ("at":G9)=some (.int n):=by
 unfold rf;rw [eJ,Ga rfl]
theorem mE (a:Gf) (n:Int) {m:G9} (h1:¬ m = "at") (h2:¬ m = "row"):(rf a n).lookup m=none:=by
 unfold rf;rw [eJ,F9 h1,eJ,F9 h2];rfl
theorem rf_put (a:Gf) (n m:Int):putF "at" (.int m) (rf a n)=rf a m:=rfl
def But (r:Gf) (H H':Hp):Prop:=∀ b o,H b=some o->b≠r->H' b=some o
theorem But.refl {r:Gf} {H:Hp}:But r H H:=fun _ _ e _=>e
theorem But.trans {r:Gf} {H H1 H2:Hp} (a:But r H H1) (b:But r H1 H2):But r H H2:=fun c o e n=>b c o (a c o e n) n
theorem But.new {r p:Gf} {H H1:Hp} {o:HO} (a:But r H H1) (n:H1 p=none):But r H (upd H1 p o):=fun c u e m=>by
 rw [eK (eW (a c u e m) n)];exact a c u e m
theorem But.upd {r:Gf} {H H1:Hp} {o:HO} (a:But r H H1):But r H (L2.upd H1 r o):=fun c u e m=>by
 rw [eK m];exact a c u e m
theorem _root_.L2.eT.but {r:Gf} {H H':Hp} (s:eT H H'):But r H H':=fun b o e _=>s b o e
theorem But.seq {K:Gh} {r a:Gf} {H H':Hp} {xs:List V} (s:But r H H') (h:SqL K H a xs) (n:a≠r):SqL K H' a xs:=by
 rcases h with (h | ⟨o,h⟩) | h
 ·exact .inl (.inl (s _ _ h n))
 ·exact .inl (.inr ⟨o,s _ _ h n⟩)
 ·exact .inr h
def fY (C:Gf) (E:XK) (k p:Int) (r:Gf) (H:Hp):Prop:=∀ (H':Hp) (dx:Gf),But r H H'->H' dx=some (qa dx (xf k p))->E (.ref C) (some dx) H'
theorem fY.of {C:Gf} {E:XK} {k p:Int} {r:Gf} {H H1:Hp} (h:fY C E k p r H) (s:But r H H1):fY C E k p r H1:=fun H' dx s1 e=>h H' dx (s.trans s1) e
theorem fY.to {C:Gf} {E:XK} {k p:Int} {r:Gf} {H:Hp} (h:fY C E k p r H):je C E k p H:=fun H' dx s e=>h H' dx s.but e
structure TxR (K:Gh) (mg:G9->Option Gg) (C:Gf):Prop where
 cl:Cls K C
 nR:fq K C "row"
 nA:fq K C "at"
 len:mg "len"=none
 reversed:mg "reversed"=none
 ends:fW mg "ENDS_EARLY" 1
 head:fW mg "WRONG_HEAD" 2
 number:fW mg "WRONG_NUMBER" 3
 left:fW mg "LEFT_OVER" 4
def vq (K:Gh) (C:Gf):Sp:=fun vs H Q _=>∃ (r dx a:Gf),vs=[.ref r,.ref a]/\H r=some (.ins C dx [])/\∀ H':Hp,gT C H' r a 0->But r H H'->Q .non H'
def wB (K:Gh) (C CF:Gf):Sp:=fun vs H Q E=>∃ (r a:Gf) (b:Gn) (n k:Nat),vs=[.ref r,.int k]/\gT C H r a n/\SqL K H a (b.map vb)/\a≠r/\n<=b.length/\b.length<=sizeLine /\
 (b.length<n+k->fY CF E 1 b.length r H)/\(n+k<=b.length->∀ (H':Hp) (l:Gf),But r H H'->gT C H' r a (n+k)->H l=none->H' l=some (.lst ((HU b n k).map vb))->Q (.ref l) H')
theorem zS:eM ["number","shift"] ["number"] (defScope jL):=mkSc
theorem Fi {f:Gf} {fd:GG} (F:Fun K "four_bytes" "four_bytes" jL f fd):ff P w K mg base (CXF P w) 11 f fd ["number"] (vx K):=by
 refine okN (k:=10) F zS fun cdv A outer s H vs Q E hr h=>?_
 ·obtain ⟨n,rfl,k⟩:=h
  have nd:=zS.nd;refine ⟨_,eI (eP (qL (own:=[("shift",1)]) U nd (vD (iE (eA eN (eA eN (eA eN (eA eN eF)))))) (iq (N:=["number","shift"]) (sc:=defScope jL) (by decide +kernel)) (fun _ _ _ _ _=>eZ (i:=1) nd U (Gy U)) (fun _ _ _ _ _=>lX)
   (fun _ _ _ _ _=>fA vL (fA C2 (pv 0) (pv 1)) eN))),?_⟩
  refine ⟨(by show 4<=sizeLine;decide),fun t nt=>⟨t,rfl,⟨_,SqT.of eC⟩,fun D nD=>?_⟩⟩
  have s0:eT H (upd H t (.tup [.int 0,.int 8,.int 16,.int 24])):=L2.upN nt;refine DL (K:=K) (a:=t) (xs:=[.int 0,.int 8,.int 16,.int 24]) (fun i H'=>eT H H'/\H' t=some (.tup [.int 0,.int 8,.int 16,.int 24])/\H' D=some (.lst ((([0,8,16,24]:List Nat).take i).map fun k=>V.int (Ii ((n:Int) / 2 ^ k) 255)))) ⟨s0.new nD,L2.upN nD _ _ eC,eC⟩ (fun i H' _ ⟨_,ht,_⟩=>SqT.of ht) ?_ ?_
  ·rintro i x H1 hx ⟨s1,ht,h1⟩
   have step:∀ j:Nat,([0,8,16,24]:List Nat)[i]?=some j->x = .int j->(if true=true then tOp (rI0 fun i j=>V.int (Ii i j)) (tOp (rI (fun _ j=>0<=j) fun i j=>V.int (i / 2 ^ j.toNat)) (tVar 0) (tVar 1)) (tC (V.int 255)) (List.set (L2.wipe (L2.start ["number","shift"] [V.int n]) [1]) 1 (some x)) H1 (fun y H4=>∃ acc,H4 D=some (.lst acc)/\acc.length<sizeLine/\(eT H (upd H4 D (.lst (acc++[y])))/\(upd H4 D (.lst (acc++[y]))) t=some (.tup [.int 0,.int 8,.int 16,.int 24])/\(upd H4 D (.lst (acc++[y]))) D=some (.lst ((([0,8,16,24]:List Nat).take (i+1)).map fun k=>V.int (Ii ((n:Int) / 2 ^ k) 255)))))
     else eT H H1/\H1 t=some (.tup [.int 0,.int 8,.int 16,.int 24])/\H1 D=some (.lst ((([0,8,16,24]:List Nat).take (i+1)).map fun k=>V.int (Ii ((n:Int) / 2 ^ k) 255)))):=by
    rintro j hj rfl
    refine (Ga U).mpr ?_;have hi:i<4:=(Gj.mp hj).1;refine ⟨_,U,_,U,_,_,U,U,JA j,_,_,U,U,_,h1,?_,s1.own (s0.free nD),?_,?_⟩
    ·rw [Ge,HF,Hj]
     omega
    ·rw [eK (fG ht h1 (by intro z;cases z))]
     exact ht
    ·rw [eC,HP,hj,Gr]
     rfl
   match i,hx with
   | 0,hx=>exact ⟨rfl,step 0 rfl (Hd hx).symm⟩
   | 1,hx=>exact ⟨rfl,step 8 rfl (Hd hx).symm⟩
   | 2,hx=>exact ⟨rfl,step 16 rfl (Hd hx).symm⟩
   | 3,hx=>exact ⟨rfl,step 24 rfl (Hd hx).symm⟩
   | i+4,hx=>simp at hx
  ·rintro H1 ⟨s1,ht,h1⟩
   refine k H1 D s1 (s0.free nD) ?_;rw [le4_vb];exact h1
theorem Cs:eM ["self","kind","place"] ["self","kind","place"] (defScope lV):=mkSc
theorem Dt {f C:Gf} {fd:GG} (F:Fun K "__init__" "Fault.__init__" lV f fd) (XC:qU K C f ["kind","place"]):ff P w K mg base (CXF P w) 1 f fd ["self","kind","place"] (qZ C):=by
 refine okN (k:=0) F Cs fun cdv A outer s H vs Q E hr h=>?_
 ·obtain ⟨e,t,k,p,rfl,he,q⟩:=h
  refine ⟨_,eE (ps_x1 XC (by decide +kernel) (pv 0) (pv 1) U) (eI (ps_x2 XC (by decide +kernel) (pv 0) (pv 2) U)),?_⟩;refine ⟨_,U,_,U,e,t,U,he,fun dx nd ne=>?_⟩
  refine ⟨_,U,_,U,e,t,dx,_,_,U,by rw [eK (HA ne),eC],ne,eC,by decide +kernel,?_⟩;rw [Es];exact q dx nd ne
theorem Ch:eM ["self","row"] ["self","row"] (defScope kT):=mkSc
theorem Dc {f C:Gf} {fd:GG} (F:Fun K "__init__" "Reader.__init__" kT f fd) (T:TxR K mg C):ff P w K mg base (CXF P w) 1 f fd ["self","row"] (vq K C):=by
 refine okN (k:=0) F Ch fun cdv A outer s H vs Q E hr h=>?_
 ·obtain ⟨r,dx,a,rfl,he,q⟩:=h
  refine ⟨_,eE (gw (pv 0) (pv 1) U) (eI (gw (pv 0) eN U)),?_⟩;refine ⟨_,rfl,_,rfl,r,C,dx,[],rfl,he,T.cl,T.nR,(by show 0<1000;decide),?_⟩;refine ⟨_,rfl,r,C,dx,_,rfl,eC,T.cl,T.nA,(by show 1<1000;decide),?_⟩;exact q _ ⟨dx,eC⟩ (But.refl.upd.upd)
theorem sc_row:eM ["self","size"] ["self","size"] (defScope iR):=mkSc
theorem ok_row {f C CF:Gf} {fd:GG} (F:Fun K "read_row" "Reader.read_row" iR f fd) (T:TxR K mg C) (FO:gU P w K mg base CF):ff P w K mg base (CXF P w) 11 f fd ["self","size"] (wB K C CF):=by
 refine okX (k:=10) F sc_row fun cdv A outer s H vs Q E hr h=>?_
 ·obtain ⟨r,a,b,n,k,rfl,⟨dx,hR⟩,hS,nar,hn,sz,k1,k2⟩:=h
  have hr2:fi 2 _:=hr.mono (by decide);refine ⟨_,eE (fF (eX jg (fA gx (eQ (pv 0) U) (pv 1)) (eU eL U T.len Gz (eA (eQ (pv 0) U) eF)) (fb _))
    (eI (hZ FO hr2 (hr.hd (by decide)) U jT (eA (fO T.ends U) (eA (eU eL U T.len Gz (eA (eQ (pv 0) U) eF)) eF)))) eY)
   (eE (nz (pv 0) (pv 1) vO)
   (eI (eP (fZ gy (eQ (pv 0) U) (fH (fA iG (eQ (pv 0) U) (pv 1))) (fH (eQ (pv 0) U)))))),?_⟩
  refine ⟨_,U,r,C,dx,_,_,U,hR,T.cl,T.nA,kh _ _,_,U,_,_,U,U,_,U,r,C,dx,_,_,U,hR,T.cl,T.nR,vA _ _,a,_,U,.inl hS,_,_,U,U,_,U,?_⟩;rw [Ge];refine gh (fun g=>?_) (fun g=>?_)
  ·have g:((b.length:Nat):Int)<(n:Int)+k:=Gd g
   refine ⟨_,U,r,C,dx,_,_,U,hR,T.cl,T.nR,vA _ _,a,_,U,.inl hS,?_⟩;rw [Ge];exact iW (k1 (by omega)).to
  ·have g:¬ ((b.length:Nat):Int)<(n:Int)+k:=fun z=>g (Gb z)
   refine ⟨_,rfl,r,C,dx,_,_,rfl,hR,T.cl,T.nA,kh _ _,_,rfl,_,_,rfl,rfl,dx,_,hR,(by show 2<1000;decide),?_⟩;rw [rf_put];have hS2:SqL K (upd H r (.ins C dx (rf a ((n:Int)+k)))) a (b.map vb):=But.seq (r:=r) (But.refl.upd) hS nar;refine ⟨_,U,r,C,dx,_,_,U,eC,T.cl,T.nR,vA _ _,_,U,r,C,dx,_,_,U,eC,T.cl,T.nA,kh _ _,_,U,_,_,U,U,_,U,_,U,r,C,dx,_,_,U,eC,T.cl,T.nA,kh _ _,_,U,a,_,U,hS2,fun l nl=>?_⟩
   have nl0:H l=none:=by
    have:l≠r:=fun z=>by rw [z,eC] at nl;cases nl
    rw [eK this] at nl;exact nl
   refine k2 (by omega) _ l (But.refl.upd.new nl) ⟨dx,?_⟩ nl0 ?_
   ·rw [eK (eW eC nl),eC]
    rfl
   ·rw [eC]
    have e:cutV (b.map vb) (some ((n:Int)+k-k)) (some ((n:Int)+k))=(HU b n k).map vb:=by
     rw [i7 (s:=n) (e:=n+k) (by omega) (by omega),show n+k-n=k by omega];unfold HU;rw [IT,Il]
    rw [← e]
def yf (K:Gh) (C CF:Gf):Sp:=fun vs H Q E=>∃ (r a hd:Gf) (b m:Gn) (n:Nat),vs=[.ref r,.ref hd]/\gT C H r a n/\SqL K H a (b.map vb)/\a≠r/\n<=b.length/\b.length<=sizeLine/\(∀ H',SqT K H' hd (m.map vb)) /\
 (∀ e,must n m (b.drop n)=some e->fY CF E e.kind e.place r H)/\(must n m (b.drop n)=none->∀ H':Hp,But r H H'->gT C H' r a (n+m.length)->Q .non H')
def m7 (K:Gh) (C CF:Gf):Sp:=fun vs H Q E=>∃ (r a:Gf) (b:Gn) (n:Nat),vs=[.ref r]/\gT C H r a n/\SqL K H a (b.map vb)/\a≠r/\n<=b.length/\b.length<=sizeLine /\
 (b.length<n+4->fY CF E 1 b.length r H)/\(n+4<=b.length->∀ H':Hp,But r H H'->gT C H' r a (n+4)->Q (.int (Sw.ofLe (HU b n 4):Nat)) H')
def B4 (K:Gh) (C CF:Gf):Sp:=fun vs H Q E=>∃ (r a:Gf) (b:Gn) (n:Nat),vs=[.ref r]/\gT C H r a n/\SqL K H a (b.map vb)/\(n<b.length->je CF E 4 n H)/\(b.length<=n->Q .non H)
def dRow (l:Gn):HZ := .list (dInts l)
theorem vS {K:Gh} {H:Hp} {a:Gf} {l:Gn} (h:H a=some (.lst (l.map vb))):Dp K H (.ref a) (dRow l) := .lst (SqL.of h) (vT l)
theorem At (l m:Gn):Kf (dRow l) (dRow m)=decide (l=m):=sU l m
theorem lJ (l:Gn):Jj (dRow l)=true:=by
 unfold Jj;have e:K8 (dRow l)=1:=by
  show Jw (dInts l)+1=1;rw [qE]
 rw [e];show (IY (dInts l) && decide (1<=64))=true;rw [pJ];rfl
theorem gT.ne {C:Gf} {H:Hp} {r a:Gf} {n:Nat} {xs:List V} {l:Gf} (h:gT C H r a n) (e:H l=some (.lst xs)):l≠r:=by
 obtain ⟨dx,h⟩:=h;exact fG e h (by intro z;cases z)
theorem Bi (b:Gn) (i:Nat) (c:UInt8) (h:b[b.length-1-i]?=some c) (hi:i<b.length):Sw.ofLe (b.drop (b.length-1-i))=Sw.ofLe (b.drop (b.length-i))*256+c.toNat:=by
 have hlt:b.length-1-i<b.length:=by omega
 rw [GX hlt,(Gj.mp h).2,Lb.qy,show b.length-1-i+1=b.length-i by omega];omega
theorem zR:eM ["self","head","value"] ["self","head"] (defScope iz):=mkSc
theorem Fg {f C CF:Gf} {fd:GG} (F:Fun K "read_head" "Reader.read_head" iz f fd) (T:TxR K mg C) (FO:gU P w K mg base CF) (G:Md P w K mg base 11 C "read_row" ["self","size"] (wB K C CF)):ff P w K mg base (CXF P w) 12 f fd ["self","head"] (yf K C CF):=by
 refine okX (k:=11) F zR fun cdv A outer s H vs Q E hr h=>?_
 ·obtain ⟨r,a,hd,b,m,n,rfl,hR,hS,nar,hn,sz,hT,k1,k2⟩:=h
  have nd:=zR.nd;have hr2:fi 2 _:=hr.mono (by decide);refine ⟨_,eI (gQ KI U (vD (pv 1)) (eZ (i:=2) nd U (Gy U))
   (eI (fF (eX (C3 hr.units) (f6 (pv 0) T.cl G hr fD (eA eN eF)) (fP (eA (pv 2) eF)) (fb _))
    (eI (hZ FO hr2 (hr.hd (by decide)) U jT (eA (fO T.head U) (eA (fA iG (eQ (pv 0) U) eN) eF)))) eY))),?_⟩
  refine ⟨_,U,hd,U,⟨_,hT _⟩,Aq (K:=K) (a:=hd) (xs:=m.map vb) (fun i σ H'=>∃ v:Option V,σ=[some (.ref r),some (.ref hd),v]/\But r H H'/\gT C H' r a (n+i)/\must n m (b.drop n)=must (n+i) (m.drop i) (b.drop (n+i))/\n+i<=b.length)
   ⟨none,rfl,But.refl,hR,rfl,hn⟩ (fun i σ H' _ _=>hT _) ?_ ?_⟩
  ·rintro i x σ H1 hx ⟨v,rfl,s1,hR1,e1,hi⟩
   obtain ⟨c,hc,rfl⟩:=fz hx;have hci:=(Gj.mp hc).1;obtain ⟨dx,hI⟩:=id hR1;have dm:m.drop i=c::m.drop (i+1):=by rw [GX hci,(Gj.mp hc).2]
   refine ⟨_,U,r,dx,_,U,hI,mE _ _ (by decide +kernel) (by decide +kernel),r,a,b,n+i,1,U,hR1,But.seq s1 hS nar,nar,hi,sz,fun g=>?_,fun g H2 l s2 hR2 nl hl=>?_⟩
   ·have e:b.drop (n+i)=[]:=Hn (by omega)
    rw [dm,e] at e1;have q:=k1 ⟨1,n+i⟩ e1;have e2:((n+i:Nat):Int)=(b.length:Nat):=by omega
    show fY CF E (1:Int) (b.length:Nat) r H1;rw [← e2];exact q.of s1
   ·have hb:n+i<b.length:=by omega
    have db:b.drop (n+i)=b[n+i]::b.drop (n+i+1):=GX hb;have ep:HU b (n+i) 1=[b[n+i]]:=by
     unfold HU;rw [db];rfl
    rw [ep] at hl;refine ⟨_,rfl,(by show 1<=sizeLine;decide),fun t nt=>?_⟩
    have hl2:=L2.upN (o := .lst [vb c]) nt _ _ hl;refine ⟨dRow [b[n+i]],dRow [c],vS hl2,vS eC,lJ _,lJ _,_,U,?_⟩;rw [At];rw [dm,db] at e1;have e1:must n m (b.drop n)=(if b[n+i]=c then must (n+i+1) (m.drop (i+1)) (b.drop (n+i+1)) else some ⟨2,n+i⟩):=e1
    have s3:But r H1 (upd H2 t (.lst [vb c])):=s2.new nt;obtain ⟨dy,hI2⟩:=id hR2;have hI3:=L2.upN (o := .lst [vb c]) nt _ _ hI2;refine gh (fun g=>?_) (fun g=>?_)
    ·have g:¬ b[n+i]=c:=fun z=>by rw [z] at g;simp at g
     rw [F9 g] at e1;refine ⟨_,U,r,C,dy,_,_,U,hI3,T.cl,T.nA,kh _ _,_,_,U,U,?_⟩;have q:=k1 _ e1;have e2:((n+i+1:Nat):Int)-1=(n+i:Nat):=by omega
     show _/\_;refine iW ?_;rw [e2];exact (q.of (s1.trans s3)).to
    ·have g:b[n+i]=c:=by
      by_cases z:b[n+i]=c
      ·exact z
      ·exfalso
       apply g;rw [Gc (fun q=>z (by simpa using q))]
       rfl
     rw [Ga g] at e1;exact ⟨_,U,s1.trans s3,⟨dy,hI3⟩,e1,by omega⟩
  ·rintro σ H1 ⟨v,rfl,s1,hR1,e1,hi⟩
   rw [Ge] at hR1 e1 hi;rw [Ik] at e1;exact k2 e1 H1 s1 hR1
theorem wO:eM ["self","number","value"] ["self"] (defScope iA):=mkSc
theorem Dr {f C CF:Gf} {fd:GG} (F:Fun K "read_four" "Reader.read_four" iA f fd) (T:TxR K mg C) (G:Md P w K mg base 11 C "read_row" ["self","size"] (wB K C CF)):ff P w K mg base (CXF P w) 12 f fd ["self"] (m7 K C CF):=by
 refine okX (k:=11) F wO fun cdv A outer s H vs Q E hr h=>?_
 ·obtain ⟨r,a,b,n,rfl,⟨dx,hI⟩,hS,nar,hn,sz,k1,k2⟩:=h
  have nd:=wO.nd;refine ⟨_,eE (eO (i:=1) nd U (Gy U) eN)
   (eE (gQ KI U (mH U T.reversed (eA (f6 (pv 0) T.cl G hr fD (eA eN eF)) eF)) (eZ (i:=2) nd U (Gy U))
    (eI (eO (i:=1) nd U (Gy U) (fA gx (fA op_mul (pv 1) eN) (pv 2)))))
   (eI (eP (pv 1)))),?_⟩
  refine ⟨_,U,r,dx,_,U,hI,mE _ _ (by decide +kernel) (by decide +kernel),r,a,b,n,4,U,⟨dx,hI⟩,hS,nar,hn,sz,k1,fun g H1 l s1 hR1 nl hl=>?_⟩
  refine ⟨l,_,U,SqL.of hl,?_⟩;have pl:(HU b n 4).length=4:=Lb.gF b n 4 g;generalize HU b n 4=q at hl pl k2;refine vP (K:=K) (a:=l) (xs:=q.map vb) (fun i σ H'=>∃ v:Option V,σ=[some (.ref r),some (.int (Sw.ofLe (q.drop (q.length-i)):Nat)),v]/\H'=H1) ?_ ?_ ?_ ?_
  ·refine ⟨none,?_,U⟩
   rw [Nat.sub_zero,Ik];rfl
  ·rintro i σ H' _ ⟨v,rfl,rfl⟩
   exact SqL.of hl
  ·rintro i x σ H' hi hx ⟨v,rfl,rfl⟩
   rw [Ge] at hi hx;obtain ⟨c,hc,rfl⟩:=fz hx;refine ⟨_,U,_,_,U,U,.inr ⟨by decide,by decide⟩,_,U,_,_,U,U,?_⟩;refine ⟨some (vb c),?_,U⟩;show [some (V.ref r),some (V.int (((Sw.ofLe (q.drop (q.length-i)):Nat):Int)*256+(c.toNat:Nat))),some (vb c)]=_;have e:=Bi q i c hc hi;rw [show q.length-(i+1)=q.length-1-i by omega,e];rfl
  ·rintro σ H' ⟨v,rfl,rfl⟩
   refine ⟨_,U,?_⟩;rw [Ge,Jz,Ip];exact k2 g H' s1 hR1
theorem sc_end:eM ["self"] ["self"] (defScope iS):=mkSc
theorem ok_end {f C CF:Gf} {fd:GG} (F:Fun K "read_end" "Reader.read_end" iS f fd) (T:TxR K mg C) (FO:gU P w K mg base CF):ff P w K mg base (CXF P w) 11 f fd ["self"] (B4 K C CF):=by
 refine okX (k:=10) F sc_end fun cdv A outer s H vs Q E hr h=>?_
 ·obtain ⟨r,a,b,n,rfl,⟨dx,hR⟩,hS,k1,k2⟩:=h
  have hr2:fi 2 _:=hr.mono (by decide);refine ⟨_,eI (fF (eX qP (eQ (pv 0) U) (eU eL U T.len Gz (eA (eQ (pv 0) U) eF)) (fb _))
    (eI (hZ FO hr2 (hr.hd (by decide)) U jT (eA (fO T.left U) (eA (eQ (pv 0) U) eF)))) eY),?_⟩
  refine ⟨_,U,r,C,dx,_,_,U,hR,T.cl,T.nA,kh _ _,_,U,r,C,dx,_,_,U,hR,T.cl,T.nR,vA _ _,a,_,U,.inl hS,_,_,U,U,_,U,?_⟩;rw [Ge];refine gh (fun g=>?_) (fun g=>?_)
  ·have g:(n:Int)<(b.length:Nat):=Gd g
   exact ⟨_,U,r,C,dx,_,_,U,hR,T.cl,T.nA,kh _ _,iW (k1 (by omega))⟩
  ·have g:¬ (n:Int)<(b.length:Nat):=fun z=>g (Gb z)
   exact k2 (by omega)
abbrev k9:=Nat×Nat×List Gn
def jA (H:Hp) (t:Gf) (x:k9):Prop:=∃ q,H t=some (.tup [.int x.1,.int x.2.1,.ref q])/\eS H q x.2.2
structure kZ (H:Hp) (as:List Gf) (xs:List k9):Prop where
 len:as.length=xs.length
 at_:∀ (i:Nat) (a:Gf) (x:k9),as[i]?=some a->xs[i]?=some x->jA H a x
def hG (H:Hp) (p:Gf) (xs:List k9):Prop:=∃ as:List Gf,H p=some (.lst (as.map V.ref))/\kZ H as xs
section
variable {H H':Hp} {as:List Gf} {xs:List k9}
theorem jA.but {p t:Gf} {x:k9} {zs:List V} (h:jA H t x) (s:But p H H') (hp:H p=some (.lst zs)) (n:∀ q,H t=some (.tup [.int x.1,.int x.2.1,.ref q])->q≠p):jA H' t x:=by
 obtain ⟨q,e,as,e2,l⟩:=h;exact ⟨q,s _ _ e (fG e hp (by intro z;cases z)),as,s _ _ e2 (n q e),l.same fun a ts z=>s _ _ z (fG z hp (by intro y;cases y))⟩
theorem jA.same {t:Gf} {x:k9} (h:jA H t x) (s:eT H H'):jA H' t x:=let ⟨q,e,l⟩:=h;⟨q,s _ _ e,l.same s⟩
theorem kZ.same (h:kZ H as xs) (s:eT H H'):kZ H' as xs:=⟨h.len,fun i a x e1 e2=>(h.at_ i a x e1 e2).same s⟩
theorem kZ.nil:kZ H [] []:=⟨rfl,fun i a x e _=>by simp at e⟩
theorem kZ.snoc {a:Gf} {x:k9} (h:kZ H as xs) (e:jA H a x):kZ H (as++[a]) (xs++[x]):=by
 refine ⟨by simp [h.len],fun i b m e1 e2=>?_⟩
 by_cases hi:i<as.length
 ·rw [G6 hi] at e1
  rw [G6 (by rw [← h.len];exact hi)] at e2;exact h.at_ i b m e1 e2
 ·have h1:=(Gj.mp e1).1
  have:i=as.length:=by simp at h1;omega
  subst this;rw [Hg (Go _)] at e1;rw [h.len,Hg (Go _)] at e2;simp at e1 e2;subst e1 e2;exact e
theorem kZ.ofGet (h:kZ H as xs) {i:Nat} {a:Gf} (e:as[i]?=some a):∃ x,xs[i]?=some x/\jA H a x:=by
 have hi:i<xs.length:=by rw [← h.len];exact (Gj.mp e).1
 exact ⟨xs[i],Gk hi,h.at_ i a _ e (Gk hi)⟩
theorem hG.same {p:Gf} (h:hG H p xs) (s:eT H H'):hG H' p xs:=let ⟨as,e,l⟩:=h;⟨as,s _ _ e,l.same s⟩
theorem jA.grow {p t:Gf} {x:k9} {zs:List V} {o:HO} (h:jA H t x) (hp:H p=some (.lst zs)) (n:∀ q,H t=some (.tup [.int x.1,.int x.2.1,.ref q])->q≠p):jA (upd H p o) t x:=h.but (But.refl.upd) hp n
end
section
variable {X:Cx} {K:Gh} {pos:Kv}
theorem vF {es:List HM} {k:Nat} {t:TGs} {n:Nat} (hK:X.K=K) (hc:X.calm=true) (h:PGs X es t)
  (hn:(assignEach es X.env).length=n:=by rfl) (hst:(assignEach es X.env).findIdx? (·.1)=none:=by rfl):PG X (.Tuple es k pos) (gTup K n t):=by
 subst hK;exact lY hc h hn hst
end
def mZ (H:Hp) (ok:Gf->Prop) (p:Gf) (xs:List k9):Prop:=∃ as:List Gf,ok p/\H p=some (.lst (as.map V.ref))/\as.length=xs.length/\∀ (i:Nat) (a:Gf) (x:k9),as[i]?=some a->xs[i]?=some x->∃ q,ok q/\H a=some (.tup [.int x.1,.int x.2.1,.ref q])/\eS H q x.2.2
theorem mZ.to {H:Hp} {ok:Gf->Prop} {p:Gf} {xs:List k9} (h:mZ H ok p xs):hG H p xs:=let ⟨as,_,e,l,f⟩:=h;⟨as,e,l,fun i a x e1 e2=>let ⟨q,_,g1,g2⟩:=f i a x e1 e2;⟨q,g1,g2⟩⟩
theorem mZ.imp {H:Hp} {ok ok':Gf->Prop} {p:Gf} {xs:List k9} (h:mZ H ok p xs) (g:∀ b,H b≠none->ok b->ok' b):mZ H ok' p xs:=by
 obtain ⟨as,o,e,l,f⟩:=h;refine ⟨as,g _ (by rw [e];exact fun z=>nomatch z) o,e,l,fun i a x e1 e2=>?_⟩
 obtain ⟨q,g0,g1,g2⟩:=f i a x e1 e2;obtain ⟨cs,g3,g4⟩:=id g2;exact ⟨q,g _ (by rw [g3];exact fun z=>nomatch z) g0,g1,g2⟩
def qk (K:Gh):Sp:=fun vs H Q _=>∃ (p q:Gf) (a b:List Gn),vs=[.ref p,.ref q]/\eS H p a/\eS H q b/\a.length<=1000000/\b.length<=1000000/\∀ (H':Hp) (r:Gf),eT H H'->H r=none->mZ H' (fun b=>H b=none) r (between a b)->Q (.ref r) H'
theorem ss:eM ["old","new","first","dropped","start","taken"] ["old","new"] (defScope iu):=mkSc
theorem yA {f:Gf} {fd:GG} (F:Fun K "patch_between" "patch_between" iu f fd) (G:Fn P w K mg base 14 "differing_runs" ["old","new"] (yd K)):ff P w K mg base (CXF P w) 15 f fd ["old","new"] (qk K):=by
 refine okN (k:=14) F ss fun cdv A outer s H vs Q E hr h=>?_
 ·obtain ⟨p,q,a,b,rfl,⟨as,hp,hl⟩,⟨bs,hq,hm⟩,sz,sz2,k⟩:=h
  have nd:=ss.nd;refine ⟨_,eI (eP (qL (own:=[("first",2),("dropped",3),("start",4),("taken",5)]) U nd (gr (eV G hr U eG (eA (pv 0) (eA (pv 1) eF)))) (iq (N:=["old","new","first","dropped","start","taken"]) (sc:=defScope iu) (by decide +kernel))
   (fun _ _ _ _ _=>vF (K:=K) (n:=4) U U (fw (eZ (i:=2) nd U (Gy U)) (fw (eZ (i:=3) nd U (Gy U)) (fw (eZ (i:=4) nd U (Gy U)) (fw (eZ (i:=5) nd U (Gy U)) iX)))))
   (fun _ _ _ _ _=>lX)
   (fun _ _ _ _ _=>iE (eA (pv 2) (eA (pv 3) (eA (fZ (Ca (K:=K) U) (pv 1) (fH (pv 4)) (fH (fA gx (pv 4) (pv 5)))) eF)))))),?_⟩
  refine ⟨_,U,_,U,p,q,a,b,U,⟨as,hp,hl⟩,⟨bs,hq,hm⟩,sz,sz2,fun H1 g s1 ng ⟨ts,hg,ob⟩=>?_⟩
  refine ⟨g,U,⟨_,SqL.of hg⟩,fun D nD=>?_⟩
  have nD0:H D=none:=s1.free nD;refine nM (K:=K) (a:=g) (xs:=ts.map V.ref) (fun i H'=>eT H H'/\eT H1 H'/\∃ us,H' D=some (.lst (us.map V.ref))/\kZ H' us (((runsOf a b).take i).map (linesRun b))/\(∀ u∈us,∀ x y c,H' u=some (.tup [x,y,.ref c])->c≠D/\H c=none)) ⟨s1.new nD,L2.upN nD,[],eC,kZ.nil,fun u hu=>by simp at hu⟩ (fun i H' _ ⟨_,s2,_⟩=>SqL.of (s2 _ _ hg)) ?_ ?_
  ·rintro i x H2 hx ⟨s2,s12,us,hD,pt,nc⟩
   obtain ⟨t,ht,rfl⟩:=fz hx;obtain ⟨r,hr',eh⟩:=ob.ofGet ht;have hlt:=(Gj.mp hr').1;refine ⟨t,_,U,SqT.of (s12 _ _ eh),U,_,_,U,_,_,U,_,_,U,_,_,U,U,U,li ?_⟩;refine ⟨_,rfl,_,rfl,_,rfl,_,rfl,_,rfl,_,rfl,_,rfl,_,_,rfl,rfl,_,rfl,q,_,rfl,SqL.of (s2 _ _ hq),fun c ncc=>⟨(by show 3<=sizeLine;decide),fun u nu=>?_⟩⟩
   have ec:cutV (bs.map V.ref) (some (r.place:Int)) (some ((r.place:Int)+r.taken))=((bs.drop r.place).take r.taken).map V.ref:=by
    rw [i7 (s:=r.place) (e:=r.place+r.taken) rfl (by omega),show r.place+r.taken-r.place=r.taken by omega,IT,Il]
   have hD2:=L2.upN (o := .tup [.int (r.from_:Int),.int (r.dropped:Int),.ref c]) nu _ _ (L2.upN (o := .lst (cutV (bs.map V.ref) (some (r.place:Int)) (some ((r.place:Int)+r.taken)))) ncc _ _ hD);have sA:=L2.upN (o := .lst (cutV (bs.map V.ref) (some (r.place:Int)) (some ((r.place:Int)+r.taken)))) ncc;have sB:=L2.upN (o := .tup [.int (r.from_:Int),.int (r.dropped:Int),.ref c]) nu;have cD:c≠D:=fun z=>by rw [z,hD] at ncc;cases ncc
   have ul:us.length=i:=by rw [pt.len,Ge,HF];omega
   refine ⟨_,hD2,?_,((s2.trans sA).trans sB).own nD0,((s12.trans sA).trans sB).own nD,us++[u],?_,?_,?_⟩
   ·rw [Ge,ul,Hj]
    have:=Lb.oC a b;omega
   ·rw [eC,Gr]
    rfl
   ·have e3:((runsOf a b).take (i+1)).map (linesRun b)=((runsOf a b).take i).map (linesRun b)++[linesRun b r]:=by
     rw [HP,hr',Gr];rfl
    rw [e3];refine kZ.snoc ⟨pt.len,fun i' a' x' z1 z2=>?_⟩ ?_
    ·refine (((pt.at_ i' a' x' z1 z2).same sA).same sB).grow hD2 fun c' hc'=>?_
     obtain ⟨q',z3,_⟩:=pt.at_ i' a' x' z1 z2;have z4:=sB _ _ (sA _ _ z3);rw [hc'] at z4;injection z4 with z4
     injection z4 with z4
     injection z4 with _ z4
     injection z4 with _ z4
     injection z4 with z4 _
     injection z4 with z4
     rw [z4];exact (nc a' (HG z1) _ _ _ z3).1
    ·refine jA.grow (x:=linesRun b r) ⟨c,eC,(bs.drop r.place).take r.taken,?_,?_⟩ hD2 fun c' hc'=>?_
     ·rw [eK (eW eC nu),eC,ec]
     ·exact (((hm.drop _).take _).same s2.tups).same (sA.trans sB).tups
     ·rw [eC] at hc'
      injection hc' with z4
      injection z4 with z4
      injection z4 with _ z4
      injection z4 with _ z4
      injection z4 with z4 _
      injection z4 with z4
      rw [← z4];exact cD
   ·intro u' hu' x y c' hc'
    rcases HS.mp hu' with z | z
    ·obtain ⟨j,hj⟩:=Jl z
     obtain ⟨x',_,q',e1,_⟩:=pt.ofGet hj;have ne:u'≠D:=fG e1 hD (by intro z;cases z);rw [eK ne,sB _ _ (sA _ _ e1)] at hc';injection hc' with z4
     injection z4 with z4
     injection z4 with z5 z4
     injection z4 with z6 z4
     injection z4 with z4 _
     injection z4 with z4
     rw [← z4];exact nc u' z _ _ _ e1
    ·rw [G7.mp z] at hc'
     have ne:u≠D:=fun z=>by rw [z,sA _ _ hD] at nu;cases nu
     rw [eK ne,eC] at hc';injection hc' with z4
     injection z4 with z4
     injection z4 with _ z4
     injection z4 with _ z4
     injection z4 with z4 _
     injection z4 with z4
     rw [← z4];exact ⟨cD,s2.free ncc⟩
  ·rintro H2 ⟨s2,s12,us,hD,pt,nc⟩
   rw [Ge,ob.len,Ib] at pt;refine k H2 D s2 nD0 ⟨us,nD0,hD,pt.len,fun i a x e1 e2=>?_⟩
   obtain ⟨c,g1,g2⟩:=pt.at_ i a x e1 e2;exact ⟨c,(nc a (HG e1) _ _ _ g1).2,g1,g2⟩
structure TxP (K:Gh) (mg:G9->Option Gg):Prop where
 len:mg "len"=none
 list:mg "list"=none
 phead:BI K mg "PATCH_HEAD" ((Hw "SWV1").map vb)
theorem rE {H:Hp} {r:Gf} {o:HO}:del (upd H r o) r=del H r:=by
 funext b;by_cases h:b=r
 ·subst h;rw [ip,ip]
 ·rw [gj h,gj h,eK h]
theorem yO {H:Hp} {r c:Gf} {o:HO} (h:c≠r):del (upd H c o) r=upd (del H r) c o:=by
 funext b;by_cases hb:b=r
 ·subst hb;rw [ip,eK (HA h),ip]
 ·rw [gj hb]
  by_cases hc:b=c
  ·subst hc;rw [eC,eC]
  ·rw [eK hc,eK hc,gj hb]
theorem jV {H:Hp} {r:Gf}:eT (del H r) H:=fun b o e=>by
 by_cases h:b=r
 ·subst h;rw [ip] at e;cases e
 ·rwa [gj h] at e
theorem vU {H:Hp} {r c:Gf} {x:HO} (hr:H r=some x) (n:H c=none):c≠r:=fun z=>by rw [z,hr] at n;cases n
theorem D4 {H:Hp} {r c:Gf} (n:H c=none):del H r c=none:=by
 by_cases h:c=r
 ·subst h;exact ip
 ·rw [gj h];exact n
theorem uS {H:Hp} {r c:Gf} {x o:HO} (hr:H r=some x) (n:H c=none):eT (del H r) (del (upd H c o) r):=by
 rw [yO (vU hr n)];exact L2.upN (D4 n)
theorem wT {H H':Hp} {r:Gf} (s:eT H H') (n:H r=none):eT H (del H' r):=fun b o e=>by
 rw [gj (eW e n)];exact s b o e
def oZ (K:Gh):Sp:=fun vs H Q _=>∃ (p:Gf) (xs:List k9),vs=[.ref p]/\hG H p xs/\(patchBytes (xs.map toPiece)).length<=sizeLine/\∀ (H':Hp) (q:Gf),eT H H'->H q=none->H' q=some (.lst ((patchBytes (xs.map toPiece)).map vb))->Q (.ref q) H'
def qg (K:Gh):Sp:=fun vs H Q _=>∃ (p q:Gf) (a:List Gn) (l:List Ju),vs=[.ref p,.ref q]/\eS H p a/\hG H q (l.map ofPiece)/\(patched a 0 l).length<=sizeLine/\∀ (H':Hp) (r:Gf),eT H H'->H r=none->eS H' r (patched a 0 l)->Q (.ref r) H'
def B7 (K:Gh):Sp:=fun vs H Q _=>∃ (p q:Gf) (a:List Gn) (l:List Ju),vs=[.ref p,.ref q]/\eS H p a/\fj a/\hG H q (l.map ofPiece)/\gq a 0 l/\l.length<=sizeLine/\∀ (H':Hp) (r:Gf),eT H H'->H r=none->hG H' r ((backOf a 0 l).map ofPiece)->Q (.ref r) H'
theorem Bx {l:List Ju} {i:Nat} {x:Ju} (h:l[i]?=some x):(l.take (i+1)).flatMap encP=(l.take i).flatMap encP++encP x:=by
 rw [HP,h,Jq];simp
theorem um:eM ["patch","row","first","dropped","taken","taken_bytes"] ["patch"] (defScope kM):=mkSc
theorem A5 {f:Gf} {fd:GG} (F:Fun K "patch_bytes" "patch_bytes" kM f fd) (T:TxP K mg) (G:Fn P w K mg base 11 "four_bytes" ["number"] (vx K)) (J:Fn P w K mg base 11 "join_lines" ["lines"] (qi K)):ff P w K mg base (CXF P w) 12 f fd ["patch"] (oZ K):=by
 refine okN (k:=11) F um fun cdv A outer s H vs Q E hr h=>?_
 ·obtain ⟨p,xs,rfl,⟨as,hp,hl⟩,sz,k⟩:=h
  have nd:=um.nd;refine ⟨_,eE (eO (i:=1) nd U (Gy U) (fA l9 (ly pV U T.list L8 (eA (Aa T.phead U) eF)) (eV G hr U eG (eA (eU eL U T.len Gz (eA (pv 0) eF)) eF))))
   (eE (gQ Hz U (gr (pv 0))
    (lY U (fw (eZ (i:=2) nd U (Gy U)) (fw (eZ (i:=3) nd U (Gy U)) (fw (eZ (i:=4) nd U (Gy U)) iX))))
    (eE (eO (i:=5) nd U (Gy U) (eV J hr U eG (eA (pv 4) eF)))
    (eE (fe (gm Gw Hc Hb fQ (pv 1) (eA (eV G hr U eG (eA (pv 2) eF)) eF)))
    (eE (fe (gm Gw Hc Hb fQ (pv 1) (eA (eV G hr U eG (eA (pv 3) eF)) eF)))
    (eE (fe (gm Gw Hc Hb fQ (pv 1) (eA (eV G hr U eG (eA (eU eL U T.len Gz (eA (pv 5) eF)) eF)) eF)))
    (eI (fe (gm Gw Hc Hb fQ (pv 1) (eA (pv 5) eF)))))))))
   (eI (eP (pv 1)))),?_⟩
  refine fun ha hha=>⟨ha,_,U,.inr (hha _),fun l nl=>?_⟩
  have s0:eT H (upd H l (.lst ((Hw "SWV1").map vb))):=L2.upN nl;refine ⟨_,U,p,_,U,.inl (SqL.of (s0 _ _ hp)),as.length,by rw [Ge];rfl,fun H1 m s1 nm hm=>?_⟩
  have h4:(HR 4 as.length).length=4:=Lb.gg _;refine ⟨l,m,_,_,U,U,s1 _ _ eC,hm,?_,fun r nr=>?_⟩
  ·rw [Ge,Ge,h4,Hj]
   decide
  have s01:eT H (upd H1 r (.lst ((Hw "SWV1").map vb++(HR 4 as.length).map vb))):=(s0.trans s1).new nr;have nr0:H r=none:=(s0.trans s1).free nr;refine ⟨_,U,p,U,⟨_,SqL.of (s01 _ _ hp)⟩,gW (K:=K) (a:=p) (xs:=as.map V.ref) (fun i σ H'=>∃ v2 v3 v4 v5:Option V,σ=[some (.ref p),some (.ref r),v2,v3,v4,v5]/\eT H H'/\H' r=some (.lst ((Hw "SWV1" ++ (HR 4 xs.length++((xs.map toPiece).take i).flatMap encP)).map vb)))
   ⟨none,none,none,none,rfl,s01,?_⟩ (fun i σ H' _ ⟨_,_,_,_,_,s1,_⟩=>SqL.of (s1 _ _ hp)) ?_ ?_⟩
  ·rw [eC,hl.len,← Gr]
   simp
  ·rintro i y σ H2 hi ⟨v2,v3,v4,v5,rfl,s2,h2⟩
   obtain ⟨t,ht,rfl⟩:=fz hi;obtain ⟨⟨x1,x2,x3⟩,ex,q,eq,ls,hq,hls⟩:=hl.ofGet ht;have ft:=Bx (l:=xs.map toPiece) (i:=i) (x:=toPiece (x1,x2,x3)) (by rw [Hh,ex];rfl);have fl:(((xs.map toPiece).take (i+1)).flatMap encP).length<=((xs.map toPiece).flatMap encP).length:=by
    conv=>rhs;rw [← JE (i+1) (xs.map toPiece),Jq,Gi]
    omega
   have sz':=sz;rw [Lb.gk,Gi,Gi,Lb.gg] at sz';rw [ft,Gi] at fl;have el:(encP (toPiece (x1,x2,x3))).length=12+(joinedL x3).length:=by
    unfold encP toPiece;rw [Gi,Gi,Gi,Lb.gg,Lb.gg,Lb.gg];show 4+(4+(4+(joinedL x3).length))=_;omega
   rw [el] at fl;have ha:(Hw "SWV1").length=4:=rfl;refine ⟨t,_,U,SqT.of (s2 _ _ eq),U,_,_,U,_,_,U,_,_,U,U,?_⟩;refine ⟨_,U,q,x3,U,⟨ls,s2 _ _ hq,hls.same s2.tups⟩,by omega,fun H3 jb s3 njb hjb=>?_⟩
   refine ⟨_,U,.inl ⟨U,_,SqL.of (s3 _ _ h2)⟩,_,U,x1,U,fun H4 f1 s4 nf1 hf1=>?_⟩
   refine ⟨r,f1,_,_,U,U,s4 _ _ (s3 _ _ h2),hf1,?_,?_⟩
   ·simp only [Ge,Gi,Lb.gg]
    omega
   have rj:r≠jb:=fun z=>by rw [z,njb] at h2;cases h2
   have k4:=((s2.trans s3).trans s4).own (o := .lst (((Hw "SWV1" ++ (HR 4 xs.length++((xs.map toPiece).take i).flatMap encP)).map vb)++(HR 4 x1).map vb)) nr0;have j4:upd H4 r (.lst (((Hw "SWV1" ++ (HR 4 xs.length++((xs.map toPiece).take i).flatMap encP)).map vb)++(HR 4 x1).map vb)) jb=some (.lst ((joinedL x3).map vb)):=by
    rw [eK (HA rj)];exact s4 _ _ hjb
   have r4:upd H4 r (.lst (((Hw "SWV1" ++ (HR 4 xs.length++((xs.map toPiece).take i).flatMap encP)).map vb)++(HR 4 x1).map vb)) r=_:=eC;generalize upd H4 r (.lst (((Hw "SWV1" ++ (HR 4 xs.length++((xs.map toPiece).take i).flatMap encP)).map vb)++(HR 4 x1).map vb))=H5 at k4 j4 r4 ⊢;refine ⟨_,U,.inl ⟨U,_,SqL.of r4⟩,_,U,x2,U,fun H6 f2 s6 nf2 hf2=>?_⟩
   refine ⟨r,f2,_,_,U,U,s6 _ _ r4,hf2,?_,?_⟩
   ·simp only [Ge,Gi,Lb.gg]
    omega
   have k6:=(k4.trans s6).own (o := .lst ((((Hw "SWV1" ++ (HR 4 xs.length++((xs.map toPiece).take i).flatMap encP)).map vb)++(HR 4 x1).map vb)++(HR 4 x2).map vb)) nr0;have j6:upd H6 r (.lst ((((Hw "SWV1" ++ (HR 4 xs.length++((xs.map toPiece).take i).flatMap encP)).map vb)++(HR 4 x1).map vb)++(HR 4 x2).map vb)) jb=some (.lst ((joinedL x3).map vb)):=by
    rw [eK (HA rj)];exact s6 _ _ j4
   have r6:upd H6 r (.lst ((((Hw "SWV1" ++ (HR 4 xs.length++((xs.map toPiece).take i).flatMap encP)).map vb)++(HR 4 x1).map vb)++(HR 4 x2).map vb)) r=_:=eC;generalize upd H6 r (.lst ((((Hw "SWV1" ++ (HR 4 xs.length++((xs.map toPiece).take i).flatMap encP)).map vb)++(HR 4 x1).map vb)++(HR 4 x2).map vb))=H7 at k6 j6 r6 ⊢;refine ⟨_,U,.inl ⟨U,_,SqL.of r6⟩,_,U,jb,_,U,.inl (SqL.of j6),(joinedL x3).length,by rw [Ge];rfl,fun H8 f3 s8 nf3 hf3=>?_⟩
   refine ⟨r,f3,_,_,U,U,s8 _ _ r6,hf3,?_,?_⟩
   ·simp only [Ge,Gi,Lb.gg]
    omega
   have k8:=(k6.trans s8).own (o := .lst (((((Hw "SWV1" ++ (HR 4 xs.length++((xs.map toPiece).take i).flatMap encP)).map vb)++(HR 4 x1).map vb)++(HR 4 x2).map vb)++(HR 4 (joinedL x3).length).map vb)) nr0;have j8:upd H8 r (.lst (((((Hw "SWV1" ++ (HR 4 xs.length++((xs.map toPiece).take i).flatMap encP)).map vb)++(HR 4 x1).map vb)++(HR 4 x2).map vb)++(HR 4 (joinedL x3).length).map vb)) jb=some (.lst ((joinedL x3).map vb)):=by
    rw [eK (HA rj)];exact s8 _ _ j6
   have r8:upd H8 r (.lst (((((Hw "SWV1" ++ (HR 4 xs.length++((xs.map toPiece).take i).flatMap encP)).map vb)++(HR 4 x1).map vb)++(HR 4 x2).map vb)++(HR 4 (joinedL x3).length).map vb)) r=_:=eC;generalize upd H8 r (.lst (((((Hw "SWV1" ++ (HR 4 xs.length++((xs.map toPiece).take i).flatMap encP)).map vb)++(HR 4 x1).map vb)++(HR 4 x2).map vb)++(HR 4 (joinedL x3).length).map vb))=H9 at k8 j8 r8 ⊢;refine ⟨_,U,.inl ⟨U,_,SqL.of r8⟩,_,U,r,jb,_,_,U,U,r8,j8,?_,_,_,_,_,U,k8.own nr0,?_⟩
   ·simp only [Ge,Gi,Lb.gg]
    omega
   ·rw [eC,ft]
    unfold encP toPiece;simp only [Gr,Hx]
  ·rintro σ H1 ⟨v2,v3,v4,v5,rfl,s1,h1⟩
   refine ⟨_,U,k H1 r s1 nr0 ?_⟩;rw [h1,Lb.gk,Ge,hl.len,Im (by rw [Ge];exact Go _),Ge]
theorem lK:eM ["old","patch","new","end_before","first","dropped","taken"] ["old","patch"] (defScope m9):=mkSc
theorem yt {f:Gf} {fd:GG} (F:Fun K "patched" "patched" m9 f fd):ff P w K mg base (CXF P w) 11 f fd ["old","patch"] (qg K):=by
 refine okN (k:=10) F lK fun cdv A outer s H vs Q E hr h=>?_
 ·obtain ⟨p,q,a,l,rfl,⟨as,hp,hl⟩,⟨ts,hq,ht⟩,sz,k⟩:=h
  have nd:=lK.nd;refine ⟨_,eE (eO (i:=2) nd U (Gy U) (fP eF))
   (eE (eO (i:=3) nd U (Gy U) eN)
   (eE (gQ Hz U (gr (pv 1))
    (lY U (fw (eZ (i:=4) nd U (Gy U)) (fw (eZ (i:=5) nd U (Gy U)) (fw (eZ (i:=6) nd U (Gy U)) iX))))
    (eE (fe (gm Gw Hc Hb fQ (pv 2) (eA (fZ gy (pv 0) (fH (pv 3)) (fH (pv 4))) eF)))
    (eE (fe (gm Gw Hc Hb fQ (pv 2) (eA (pv 6) eF)))
    (eI (eO (i:=3) nd U (Gy U) (fA gx (pv 4) (pv 5)))))))
   (eE (fe (gm Gw Hc Hb fQ (pv 2) (eA (fZ gy (pv 0) (fH (pv 3)) nE) eF)))
   (eI (eP (pv 2)))))),?_⟩
  refine ⟨G5 _,fun r nr=>?_⟩
  have s0:eT H (upd H r (.lst [])):=L2.upN nr;refine ⟨_,U,q,U,⟨_,SqL.of (s0 _ _ hq)⟩,gW (K:=K) (a:=q) (xs:=ts.map V.ref) (fun i σ H'=>∃ (e:Nat) (ys:List Gn) (bs:List Gf) (v4 v5 v6:Option V),σ=[some (.ref p),some (.ref q),some (.ref r),some (.int e),v4,v5,v6]/\eT H H'/\H' r=some (.lst (bs.map V.ref))/\f9 H' bs ys/\ys++patched a e (l.drop i)=patched a 0 l)
   ⟨0,[],[],none,none,none,rfl,s0,eC,f9.nil,rfl⟩ (fun i σ H' _ ⟨_,_,_,_,_,_,_,s1,_⟩=>SqL.of (s1 _ _ hq)) ?_ ?_⟩
  ·rintro i y σ H1 hi ⟨e,ys,bs,v4,v5,v6,rfl,s1,h1,hb,e1⟩
   obtain ⟨t,ht',rfl⟩:=fz hi;obtain ⟨x,ex,c,ec,cs,hc,hcs⟩:=ht.ofGet ht';obtain ⟨pc,epc,rfl⟩:=fz ex;have hil:=(Gj.mp epc).1;have dr:l.drop i=pc::l.drop (i+1):=by
    rw [GX hil,(Gj.mp epc).2]
   rw [dr] at e1;have e1:ys++(someOf a e (pc.from_-e)++(linesOf pc.bytes++patched a (pc.from_+pc.dropped) (l.drop (i+1))))=patched a 0 l:=e1;have el:=congrArg Ih e1;simp only [Gi] at el;have cz:cutV (as.map V.ref) (some (e:Int)) (some ((ofPiece pc).1:Int))=((as.drop e).take (pc.from_-e)).map V.ref:=by
    rw [i7 (xs:=as.map V.ref) (s:=e) (e:=pc.from_) (z:=(e:Int)) (y:=((ofPiece pc).1:Int)) rfl rfl,IT,Il]
   have hs:=(hl.drop e).take (pc.from_-e);have hsl:=hs.len;refine ⟨t,_,U,SqT.of (s1 _ _ ec),U,_,_,U,_,_,U,_,_,U,U,?_⟩;refine ⟨_,U,.inl ⟨U,_,SqL.of h1⟩,_,U,_,U,_,U,_,U,_,U,p,_,U,SqL.of (s1 _ _ hp),fun c1 nc1=>?_⟩
   rw [cz];refine ⟨r,c1,_,_,U,U,L2.upN nc1 _ _ h1,eC,?_,?_⟩
   ·rw [Ge,Ge,hb.len,hsl]
    have:((a.drop e).take (pc.from_-e)).length=(someOf a e (pc.from_-e)).length:=rfl;omega
   have s2:=(s1.new (o := .lst (((as.drop e).take (pc.from_-e)).map V.ref)) nc1).own (o := .lst (bs.map V.ref++((as.drop e).take (pc.from_-e)).map V.ref)) nr
   have hb2:f9 (upd (upd H1 c1 (.lst (((as.drop e).take (pc.from_-e)).map V.ref))) r (.lst (bs.map V.ref++((as.drop e).take (pc.from_-e)).map V.ref))) (bs++(as.drop e).take (pc.from_-e)) (ys++someOf a e (pc.from_-e)) :=
    ((hb.same (L2.upN nc1).tups).same (L2.mn (L2.upN nc1 _ _ h1))).append (hs.same s2.tups)
   have h2:upd (upd H1 c1 (.lst (((as.drop e).take (pc.from_-e)).map V.ref))) r (.lst (bs.map V.ref++((as.drop e).take (pc.from_-e)).map V.ref)) r=some (.lst ((bs++(as.drop e).take (pc.from_-e)).map V.ref)):=by
    rw [eC,Gr]
   generalize upd (upd H1 c1 (.lst (((as.drop e).take (pc.from_-e)).map V.ref))) r (.lst (bs.map V.ref++((as.drop e).take (pc.from_-e)).map V.ref))=H2 at s2 hb2 h2 ⊢;have hcl:=hcs.len;refine ⟨_,U,.inl ⟨U,_,SqL.of h2⟩,_,U,r,c,_,_,U,U,h2,s2 _ _ hc,?_,?_⟩
   ·rw [Ge,Ge,hb2.len,hcl,Gi]
    show _+(linesOf pc.bytes).length<=_;omega
   refine ⟨_,U,_,U,_,_,U,U,?_⟩;refine ⟨pc.from_+pc.dropped,(ys++someOf a e (pc.from_-e))++linesOf pc.bytes,(bs++(as.drop e).take (pc.from_-e))++cs,_,_,_,U,s2.own nr,?_,?_,?_⟩
   ·rw [eC]
    simp only [Gr]
   ·exact (hb2.same (L2.mn h2)).append ((hcs.same s2.tups).same (L2.mn h2))
   ·rw [← e1]
    simp only [Hx]
  ·rintro σ H1 ⟨e,ys,bs,v4,v5,v6,rfl,s1,h1,hb,e1⟩
   have tl:ts.length=l.length:=by rw [ht.len,Ge]
   rw [Ge,tl,Ik] at e1;have e1:ys++a.drop e=patched a 0 l:=e1;have el:=congrArg Ih e1;rw [Gi] at el;have hs:=hl.drop e;have hsl:=hs.len;refine ⟨_,U,.inl ⟨U,_,SqL.of h1⟩,_,U,_,U,_,U,p,_,U,SqL.of (s1 _ _ hp),fun c1 nc1=>?_⟩
   rw [lF (s:=e) rfl,← Il];refine ⟨r,c1,_,_,U,U,L2.upN nc1 _ _ h1,eC,?_,?_⟩
   ·rw [Ge,Ge,hb.len,hsl]
    omega
   have s2:=(s1.new (o := .lst ((as.drop e).map V.ref)) nc1).own (o := .lst (bs.map V.ref++(as.drop e).map V.ref)) nr;refine ⟨_,U,k _ r s2 nr ⟨bs++as.drop e,?_,?_⟩⟩
   ·rw [eC,Gr]
   ·rw [← e1]
    exact ((hb.same (L2.upN nc1).tups).same (L2.mn (L2.upN nc1 _ _ h1))).append (hs.same s2.tups)
theorem zV:eM ["old","patch","back","shift","first","dropped","taken"] ["old","patch"] (defScope kJ):=mkSc
theorem Fm {f:Gf} {fd:GG} (F:Fun K "turned_back" "turned_back" kJ f fd) (T:TxP K mg):ff P w K mg base (CXF P w) 11 f fd ["old","patch"] (B7 K):=by
 refine okN (k:=10) F zV fun cdv A outer s H vs Q E hr h=>?_
 ·obtain ⟨p,q,a,l,rfl,⟨as,hp,hl⟩,La,⟨ts,hq,ht⟩,po,sz,k⟩:=h
  have nd:=zV.nd;refine ⟨_,eE (eO (i:=2) nd U (Gy U) (fP eF))
   (eE (eO (i:=3) nd U (Gy U) eN)
   (eE (gQ Hz U (gr (pv 1))
    (lY U (fw (eZ (i:=4) nd U (Gy U)) (fw (eZ (i:=5) nd U (Gy U)) (fw (eZ (i:=6) nd U (Gy U)) iX))))
    (eE (fe (gm Gw HJ HI gG (pv 2) (eA (iE (eA (fA gx (pv 4) (pv 3)) (eA (eU eL U T.len Gz (eA (pv 6) eF)) (eA (fZ gy (pv 0) (fH (pv 4)) (fH (fA gx (pv 4) (pv 5)))) eF)))) eF)))
    (eI (qv (i:=3) nd U (Gy U) (fA iG (eU eL U T.len Gz (eA (pv 6) eF)) (pv 5)) qC))))
   (eI (eP (pv 2))))),?_⟩
  refine ⟨G5 _,fun r nr=>?_⟩
  have s0:eT H (upd H r (.lst [])):=L2.upN nr;refine ⟨_,U,q,U,⟨_,SqL.of (s0 _ _ hq)⟩,gW (K:=K) (a:=q) (xs:=ts.map V.ref) (fun i σ H'=>∃ (z:Int) (m:Nat) (ys:List Ju) (bs:List Gf) (v4 v5 v6:Option V),σ=[some (.ref p),some (.ref q),some (.ref r),some (.int z),v4,v5,v6]/\eT H (del H' r)/\H' r=some (.lst (bs.map V.ref))/\kZ (del H' r) bs (ys.map ofPiece)/\ys++backOf a z (l.drop i)=backOf a 0 l/\gq a m (l.drop i)/\0<=z+m/\ys.length=i)
   ⟨0,0,[],[],none,none,none,rfl,wT s0 nr,eC,kZ.nil,rfl,po,by decide,rfl⟩ (fun i σ H' _ ⟨_,_,_,_,_,_,_,_,s1,_⟩=>SqL.of (jV _ _ (s1 _ _ hq))) ?_ ?_⟩
  ·rintro i y σ H1 hi ⟨z,m,ys,bs,v4,v5,v6,rfl,s1,h1,hb,e1,po1,zm,yl⟩
   have s1':eT H H1:=s1.trans jV;obtain ⟨t,ht',rfl⟩:=fz hi;obtain ⟨x,ex,c,ec,cs,hc,hcs⟩:=ht.ofGet ht';obtain ⟨pc,epc,rfl⟩:=fz ex;have hil:=(Gj.mp epc).1;have dr:l.drop i=pc::l.drop (i+1):=by
    rw [GX hil,(Gj.mp epc).2]
   rw [dr] at e1 po1;obtain ⟨g1,g2⟩:=Lb.xL po1 zm;have po2:gq a (pc.from_+pc.dropped) (l.drop (i+1)):=po1.2.2.2.2.2.2.2;have e1:ys++(⟨(z+pc.from_).toNat,(linesOf pc.bytes).length,joinedL (someOf a pc.from_ pc.dropped)⟩::backOf a (z+(linesOf pc.bytes).length-pc.dropped) (l.drop (i+1)))=backOf a 0 l:=e1;have cz:cutV (as.map V.ref) (some ((ofPiece pc).1:Int)) (some (((ofPiece pc).1:Int)+(ofPiece pc).2.1))=((as.drop pc.from_).take pc.dropped).map V.ref:=by
    rw [i7 (xs:=as.map V.ref) (s:=pc.from_) (e:=pc.from_+pc.dropped) (z:=((ofPiece pc).1:Int)) (y:=((ofPiece pc).1:Int)+(ofPiece pc).2.1) rfl rfl,show pc.from_+pc.dropped-pc.from_=pc.dropped by omega,IT,Il]
   have hs:=(hl.drop pc.from_).take pc.dropped;have cl:(cs.map V.ref).length=(linesOf pc.bytes).length:=by rw [Ge,hcs.len];rfl
   refine ⟨t,_,U,SqT.of (s1' _ _ ec),U,_,_,U,_,_,U,_,_,U,U,?_⟩;refine ⟨_,rfl,.inl ⟨rfl,_,SqL.of h1⟩,_,rfl,_,rfl,_,_,rfl,rfl,_,rfl,c,_,rfl,.inl (SqL.of (s1' _ _ hc)),_,rfl,_,rfl,_,rfl,_,rfl,_,rfl,_,_,rfl,rfl,_,rfl,p,_,rfl,SqL.of (s1' _ _ hp),fun c1 nc1=>⟨(by show 3<=sizeLine;decide),fun u nu=>?_⟩⟩
   rw [cz] at nu ⊢;rw [cl];have h2:=L2.upN (o := .tup [.int ((pc.from_:Int)+z),.int ((linesOf pc.bytes).length:Nat),.ref c1]) nu _ _ (L2.upN (o := .lst (((as.drop pc.from_).take pc.dropped).map V.ref)) nc1 _ _ h1);have d1:eT (del H1 r) (del (upd H1 c1 (.lst (((as.drop pc.from_).take pc.dropped).map V.ref))) r):=uS h1 nc1;have h12:=L2.upN (o := .lst (((as.drop pc.from_).take pc.dropped).map V.ref)) nc1 _ _ h1;have d2:eT (del (upd H1 c1 (.lst (((as.drop pc.from_).take pc.dropped).map V.ref))) r) (del (upd (upd H1 c1 (.lst (((as.drop pc.from_).take pc.dropped).map V.ref))) u (.tup [.int ((pc.from_:Int)+z),.int ((linesOf pc.bytes).length:Nat),.ref c1])) r):=uS h12 nu;have cr:c1≠r:=vU h1 nc1;have ur:u≠r:=vU h12 nu;have hu:del (upd (upd H1 c1 (.lst (((as.drop pc.from_).take pc.dropped).map V.ref))) u (.tup [.int ((pc.from_:Int)+z),.int ((linesOf pc.bytes).length:Nat),.ref c1])) r u=some (.tup [.int ((pc.from_:Int)+z),.int ((linesOf pc.bytes).length:Nat),.ref c1]):=by
    rw [gj ur,eC]
   have hc1:del (upd (upd H1 c1 (.lst (((as.drop pc.from_).take pc.dropped).map V.ref))) u (.tup [.int ((pc.from_:Int)+z),.int ((linesOf pc.bytes).length:Nat),.ref c1])) r c1=some (.lst (((as.drop pc.from_).take pc.dropped).map V.ref)):=by
    refine d2 _ _ ?_;rw [gj cr,eC]
   have s2:eT H _:=(s1.trans d1).trans d2;have hb2:=(hb.same d1).same d2;have bl:bs.length=i:=by rw [hb.len,Ge,yl]
   have s2':eT H _:=s2.trans jV;have hc2:=s2' _ _ hc;refine ⟨r,_,_,U,U,h2,?_,?_⟩
   ·rw [Ge,bl]
    omega
   refine ⟨_,U,_,U,c,_,U,.inl (SqL.of (L2.eT.own (fun b o e=>?_) nr _ _ hc)),_,U,_,_,U,U,_,_,U,U,?_⟩
   ·exact s2' b o e
   rw [cl];refine ⟨z+(linesOf pc.bytes).length-pc.dropped,pc.from_+pc.dropped,ys++[⟨(z+pc.from_).toNat,(linesOf pc.bytes).length,joinedL (someOf a pc.from_ pc.dropped)⟩],bs++[u],some (.int (pc.from_:Nat)),some (.int (pc.dropped:Nat)),some (.ref c),?_,?_,?_,?_,?_,po2,g2,?_⟩
   ·rw [show z+(linesOf pc.bytes).length-pc.dropped=z+((linesOf pc.bytes).length-pc.dropped) by omega]
    rfl
   ·rw [rE]
    exact s2
   ·rw [eC,Gr]
    rfl
   ·rw [rE,Gr]
    refine hb2.snoc ⟨c1,?_,(as.drop pc.from_).take pc.dropped,hc1,?_⟩
    ·rw [hu]
     show _=some (HO.tup [V.int (((z+pc.from_).toNat:Nat):Int),V.int ((linesOf pc.bytes).length:Nat),V.ref c1]);rw [JY g1,Int.add_comm]
    ·show f9 _ _ (linesOf (joinedL (someOf a pc.from_ pc.dropped)))
     rw [(Lb.vy La _ _).uniq];exact hs.same s2.tups
   ·rw [← e1,Hx]
    rfl
   ·rw [Gi,yl]
    rfl
  ·rintro σ H1 ⟨z,m,ys,bs,v4,v5,v6,rfl,s1,h1,hb,e1,po1,zm,yl⟩
   have tl:ts.length=l.length:=by rw [ht.len,Ge]
   rw [Ge,tl,Ik] at e1;have e1:ys++[]=backOf a 0 l:=e1;rw [Iq] at e1;rw [e1] at hb;exact ⟨_,U,k H1 r (s1.trans jV) nr ⟨bs,h1,hb.same jV⟩⟩
def openOf (z:Gn):Gn:=((linesOf z).getLast?.filter isOpen).getD []
def oneRun (a:List Gn) (b:Gn) (n p:Nat) (last:Option Nat):Except Sw.Fault (Ju×Nat) :=
 if b.length<p+12 then .error ⟨1,b.length⟩
 else if iJ a last (ofLe (part b p 4)) (ofLe (part b (p+4) 4)) (ofLe (part b (p+8) 4)) then .error ⟨3,p⟩
  else if b.length<p+12+ofLe (part b (p+8) 4) then .error ⟨1,b.length⟩
  else if openOf (part b (p+12) (ofLe (part b (p+8) 4)))≠[]/\((ofLe (part b p 4)+ofLe (part b (p+4) 4) == a.length)=false∨n≠0) then .error ⟨3,p+12+ofLe (part b (p+8) 4)-(openOf (part b (p+12) (ofLe (part b (p+8) 4)))).length⟩
   else .ok (⟨ofLe (part b p 4),ofLe (part b (p+4) 4),part b (p+12) (ofLe (part b (p+8) 4))⟩,p+12+ofLe (part b (p+8) 4))
theorem Cz (a:List Gn) (b:Gn) (n p:Nat) (last:Option Nat):readRuns a b (n+1) p last=match oneRun a b n p last with
  | .error e => .error e
  | .ok x=>(readRuns a b n x.2 (some (x.1.from_+x.1.dropped))).map fun (y:List Ju×Nat)=>(x.1::y.1,y.2):=by
 rw [Lb.oj];unfold oneRun;by_cases h1:b.length<p+12
 ·rw [Ga h1,Ga h1]
 rw [F9 h1,F9 h1];by_cases h2:iJ a last (ofLe (part b p 4)) (ofLe (part b (p+4) 4)) (ofLe (part b (p+8) 4))
 ·rw [Ga h2,Ga h2]
 rw [F9 h2,F9 h2];by_cases h3:b.length<p+12+ofLe (part b (p+8) 4)
 ·rw [Ga h3,Ga h3]
 rw [F9 h3,F9 h3];unfold openOf;split <;> rfl
theorem oM {ls:List Gn} (h:fj ls):lastLacks ls=(ls.getLast?.map isOpen).getD false:=by
 unfold lastLacks;cases e:ls.getLast? with
 | none=>rfl
 | some l =>
  have:l≠[]:=h.ne (JO e);show lacks l=isOpen l;unfold lacks;rw [Gb this,LL]
theorem uH {z l:Gn} (h:(linesOf z).getLast?=some l) (o:lastLacks (linesOf z)=true):openOf z=l:=by
 rw [oM (Lb.gp z),h] at o;unfold openOf;rw [h];show ((some l).filter isOpen).getD []=l;rw [Jv,Ga (show isOpen l=true from o)];rfl
theorem px (z:Gn):openOf z≠[]↔lastLacks (linesOf z)=true:=by
 constructor
 ·intro h
  rw [oM (Lb.gp z)];unfold openOf at h;cases e:(linesOf z).getLast? with
  | none=>rw [e] at h;exact absurd rfl h
  | some l =>
   rw [e,Jv] at h;by_cases g:isOpen l=true
   ·exact g
   ·rw [F9 g] at h;exact absurd rfl h
 ·intro h
  cases e:(linesOf z).getLast? with
  | none =>
   unfold lastLacks at h;rw [e] at h;cases h
  | some l =>
   rw [uH e h];exact (Lb.gp z).ne (JO e)
theorem A2 {a:List Gn} {b:Gn} {n p:Nat} {last:Option Nat} {x:Ju×Nat} (h:oneRun a b n p last = .ok x):p+12<=x.2/\x.2<=b.length:=by
 unfold oneRun at h;split at h
 ·cases h
 split at h
 ·cases h
 split at h
 ·cases h
 split at h
 ·cases h
 injection h with h
 subst h;exact ⟨by show _<=p+12+_;omega,by show p+12+_<=_;omega⟩
def lastI:Option Nat->Int
 | none => -1
 | some e=>e
def BZ (K:Gh):Sp:=fun vs H Q _=>∃ (f d k:Nat) (last:Option Nat) (p:Gf) (a:List Gn),vs=[.int f,.int d,.int k,.int (lastI last),.ref p]/\eS H p a/\fj a/\Q (.bl (!decide (iJ a last f d k))) H
def ua (K:Gh) (C CF:Gf):Sp:=fun vs H Q E=>∃ (r s p:Gf) (b:Gn) (a:List Gn) (n m:Nat) (last:Option Nat),vs=[.ref r,.int (lastI last),.bl (decide (m=0)),.ref p]/\gT C H r s n/\SqL K H s (b.map vb)/\s≠r/\n<=b.length/\b.length<=sizeLine/\eS H p a/\fj a /\
 (∀ e,oneRun a b m n last = .error e->fY CF E e.kind e.place r H)/\(∀ x,oneRun a b m n last = .ok x->∀ (H':Hp) (t q:Gf),But r H H'->gT C H' r s x.2->H t=none->H q=none->H' t=some (.tup [.int (ofPiece x.1).1,.int (ofPiece x.1).2.1,.ref q])->eS H' q (ofPiece x.1).2.2->Q (.ref t) H')
def mz (K:Gh) (CF:Gf):Sp:=fun vs H Q E=>∃ (s p:Gf) (b:Gn) (a:List Gn),vs=[.ref s,.ref p]/\H s=some (.lst (b.map vb))/\b.length<=sizeLine/\eS H p a/\fj a /\
 (∀ e,readPatch a b = .error e->je CF E e.kind e.place H)/\(∀ l,readPatch a b = .ok l->∀ (H':Hp) (q:Gf),eT H H'->H q=none->hG H' q (l.map ofPiece)->Q (.ref q) H')
theorem EF:eM ["first","dropped","size","end_before","old"] ["first","dropped","size","end_before","old"] (defScope oA):=mkSc
theorem Fj {f:Gf} {fd:GG} (F:Fun K "run_fits" "run_fits" oA f fd) (T:TxP K mg) (G:Fn P w K mg base 2 "last_lacks_end" ["lines"] (ye K)):ff P w K mg base (CXF P w) 3 f fd ["first","dropped","size","end_before","old"] (BZ K):=by
 refine okN (k:=2) F EF fun cdv A outer s H vs Q E hr h=>?_
 ·obtain ⟨f,d,k,last,p,a,rfl,⟨as,hp,hl⟩,La,q⟩:=h
  refine ⟨_,eE (fF (PW.pt (wX (eX FZ (pv 0) (pv 3) (fb _)) (sD (eX jg (fA gx (pv 0) (pv 1)) (eU eL U T.len Gz (eA (pv 4) eF)) (fb _))))) (eI (eP w9)) eY)
   (eE (fF (eX jg (pv 1) eN (fb _)) (eI (eP w9)) eY)
   (eI (eP (sE (gC jg (pv 2) eN (fb _)) (mI (pe_not (sE (gC io (pv 0) (eU eL U T.len Gz (eA (pv 4) eF)) (fb _)) (mI (eV G hr U eG (eA (pv 4) eF)))))))))),?_⟩
  have al:(as.map V.ref).length=a.length:=by rw [Ge,hl.len]
  have lb:decide ((f:Int)<=lastI last)=lastBad last f:=by
   cases last with
   | none=>exact Gc (by show ¬ (f:Int) <= -1;omega)
   | some e =>
    show decide ((f:Int)<=(e:Nat))=decide (f<=e);exact decide_eq_decide.mpr (by omega)
  have bad:iJ a last f d k->Q (.bl false) H:=fun z=>by rw [Gb z] at q;exact q
  have good:¬ iJ a last f d k->Q (.bl true) H:=fun z=>by rw [Gc z] at q;exact q
  have ll:=oM La;refine ⟨_,U,_,U,_,_,U,U,_,U,?_⟩;refine gh (fun g=>?_) (fun g=>?_)
  ·rw [lb] at g
   exact (Ga U).mpr (bad (.inl g))
  rw [lb] at g;refine ⟨_,U,_,U,_,_,U,U,_,U,p,_,U,.inl (SqL.of hp),_,_,U,U,_,U,?_⟩;rw [al];refine gh (fun g2=>?_) (fun g2=>?_)
  ·have g2:((a.length:Nat):Int)<(f:Int)+d:=Gd g2
   exact bad (.inr (.inl (by omega)))
  have g2:¬ ((a.length:Nat):Int)<(f:Int)+d:=fun z=>g2 (Gb z)
  refine ⟨_,U,_,_,U,U,_,U,?_⟩;refine gh (fun g3=>?_) (fun g3=>?_)
  ·have g3:(0:Int)<(d:Nat):=Gd g3
   refine good ?_;rintro (z | z | z | z)
   ·exact g z
   ·omega
   ·omega
   ·omega
  have g3:¬ (0:Int)<(d:Nat):=fun z=>g3 (Gb z)
  refine ⟨_,U,_,_,U,U,_,U,?_⟩;refine gh (fun g4=>?_) (fun g4=>?_)
  ·have g4:(0:Int)<(k:Nat):=Gd g4
   refine ⟨_,U,_,U,p,_,U,.inl (SqL.of hp),U,_,U,?_⟩;rw [al];refine gh (fun g5=>?_) (fun g5=>?_)
   ·have g5:V.int f=V.int (a.length:Nat):=Gd g5
    injection g5 with g5
    refine ⟨_,U,p,a,U,⟨as,hp,hl⟩,_,U,?_⟩;rw [ll];by_cases g6:(a.getLast?.map isOpen).getD false=true
    ·rw [g6]
     exact bad (.inr (.inr (.inr ⟨by omega,by omega,g6⟩)))
    ·rw [Bool.not_eq_true] at g6
     rw [g6];refine good ?_;rintro (z | z | z | z)
     ·exact g z
     ·omega
     ·omega
     ·rw [g6] at z;exact GI z.2.2
   ·have g5:¬ V.int f=V.int (a.length:Nat):=fun z=>g5 (Gb z)
    refine ⟨_,U,good ?_⟩;rintro (z | z | z | z)
    ·exact g z
    ·omega
    ·omega
    ·exact g5 (by rw [z.2.1])
  ·have g4:¬ (0:Int)<(k:Nat):=fun z=>g4 (Gb z)
   exact bad (.inr (.inr (.inl ⟨by omega,by omega⟩)))
theorem gT.lst {C:Gf} {H H':Hp} {r a:Gf} {n:Nat} {l:Gf} {xs:List V} (h:gT C H r a n) (s:But r H H') (e:H l=some (.lst xs)):H' l=some (.lst xs):=s _ _ e (h.ne e)
theorem gT.tup {C:Gf} {H H':Hp} {r a:Gf} {n:Nat} {l:Gf} {xs:List V} (h:gT C H r a n) (s:But r H H') (e:H l=some (.tup xs)):H' l=some (.tup xs):=by
 obtain ⟨dx,h⟩:=h;exact s _ _ e (fG e h (by intro z;cases z))
theorem eS.but {C:Gf} {H H':Hp} {r a p:Gf} {n:Nat} {ls:List Gn} (l:eS H p ls) (h:gT C H r a n) (s:But r H H'):eS H' p ls:=let ⟨as,e,k⟩:=l;⟨as,h.lst s e,k.same fun x xs z=>h.tup s z⟩
theorem jA.butR {C:Gf} {H H':Hp} {r a t:Gf} {n:Nat} {x:k9} (l:jA H t x) (h:gT C H r a n) (s:But r H H'):jA H' t x:=let ⟨q,e,k⟩:=l;⟨q,h.tup s e,k.but h s⟩
theorem gT.same {C:Gf} {H H':Hp} {r a:Gf} {n:Nat} (h:gT C H r a n) (s:eT H H'):gT C H' r a n:=let ⟨dx,e⟩:=h;⟨dx,s _ _ e⟩
theorem pW {C:Gf} {H H':Hp} {r a u:Gf} {n:Nat} (s:But r H H') (h:gT C H' r a n) (nu:H' u=none):H u=none:=by
 by_cases e:H u=none
 ·exact e
 ·obtain ⟨o,ho⟩:=HN.mp e
  by_cases ur:u=r
  ·obtain ⟨dd,hh⟩:=h
   rw [ur,hh] at nu;cases nu
  ·rw [s u o ho ur] at nu
   cases nu
theorem Ae (y:Gn):(openOf y).length<=y.length:=by
 unfold openOf;cases e:(linesOf y).getLast? with
 | none=>exact G5 _
 | some l =>
  rw [Jv];split
  ·show l.length<=y.length
   conv=>rhs;rw [← Lb.fK y]
   have hm:=JO e;obtain ⟨xs,ys,h⟩:=List.append_of_mem hm;rw [h,Lb.f7,Lb.iZ,Gi,Gi];omega
  ·exact G5 _
theorem zK:eM ["reader","end_before","is_last","old","place","first","dropped","size","taken","is_behind_all"] ["reader","end_before","is_last","old"] (defScope oB):=mkSc
theorem E5 {f C CF:Gf} {fd:GG} (F:Fun K "read_run" "read_run" oB f fd) (T:TxR K mg C) (FO:gU P w K mg base CF) (G4:Md P w K mg base 12 C "read_four" ["self"] (m7 K C CF)) (GR:Md P w K mg base 11 C "read_row" ["self","size"] (wB K C CF))
  (GF:Fn P w K mg base 3 "run_fits" ["first","dropped","size","end_before","old"] (BZ K)) (GS:Fn P w K mg base 11 "split_lines" ["row"] (oY K)) (GL:Fn P w K mg base 2 "last_lacks_end" ["lines"] (ye K)) :
  ff P w K mg base (CXF P w) 13 f fd ["reader","end_before","is_last","old"] (ua K C CF):=by
 refine okX (k:=12) F zK fun cdv A outer s H vs Q E hr h=>?_
 ·obtain ⟨r,s,p,b,a,n,m,last,rfl,⟨dx,hI⟩,hS,nsr,hn,sz,hL,La,k1,k2⟩:=h
  have nd:=zK.nd;have hr2:fi 2 _:=hr.mono (by decide);have hr3:fi 3 _:=hr.mono (by decide);have hr11:fi 11 _:=hr.mono (by decide);refine ⟨_,eE (eO (i:=4) nd U (Gy U) (eQ (pv 0) U))
   (eE (eO (i:=5) nd U (Gy U) (iF (pv 0) T.cl G4 hr fD))
   (eE (eO (i:=6) nd U (Gy U) (iF (pv 0) T.cl G4 hr fD))
   (eE (eO (i:=7) nd U (Gy U) (iF (pv 0) T.cl G4 hr fD))
   (eE (fF (vC (kj (eV GF hr3 U fD (eA (pv 5) (eA (pv 6) (eA (pv 7) (eA (pv 1) (eA (pv 3) eF))))))))
    (eI (hZ FO hr2 (hr.hd (by decide)) U jT (eA (fO T.number U) (eA (pv 4) eF)))) eY)
   (eE (eO (i:=8) nd U (Gy U) (eV GS hr11 U fD (eA (f6 (pv 0) T.cl GR hr11 fD (eA (pv 7) eF)) eF)))
   (eE (eO (i:=9) nd U (Gy U) (sE (pv 2) (mI (gC io (fA gx (pv 5) (pv 6)) (eU eL U T.len Gz (eA (pv 3) eF)) (fb _)))))
   (eE (fF (PW.pt (qu (kj (eV GL hr2 U fD (eA (pv 8) eF))) (ny (vC (kj (pv 9))))))
    (eI (hZ FO hr2 (hr.hd (by decide)) U jT (eA (fO T.number U) (eA (fA iG (eQ (pv 0) U) (eU eL U T.len Gz (eA (fM fm (pv 8) (uC qf eN) (fun _ _=>U)) eF))) eF)))) eY)
   (eI (eP (iE (eA (pv 5) (eA (pv 6) (eA (pv 8) eF))))))))))))),?_⟩
  have rf4:∀ x:Int,(rf s x).lookup ("read_four":G9)=none:=fun x=>mE _ _ (by decide +kernel) (by decide +kernel)
  have rfR:∀ x:Int,(rf s x).lookup ("read_row":G9)=none:=fun x=>mE _ _ (by decide +kernel) (by decide +kernel)
  have hR:gT C H r s n:=⟨dx,hI⟩;have short:b.length<n+12->fY CF E 1 (b.length:Nat) r H:=fun z=>k1 ⟨1,b.length⟩ (by unfold oneRun;rw [Ga z])
  refine ⟨_,U,r,C,dx,_,_,U,hI,T.cl,T.nA,kh _ _,?_⟩;refine ⟨_,U,r,dx,_,U,hI,rf4 _,r,s,b,n,U,hR,hS,nsr,hn,sz,fun g=>short (by omega),fun g1 H1 s1 hR1=>?_⟩
  obtain ⟨dx1,hI1⟩:=id hR1;refine ⟨_,U,r,dx1,_,U,hI1,rf4 _,r,s,b,n+4,U,hR1,But.seq s1 hS nsr,nsr,g1,sz,fun g=>(short (by omega)).of s1,fun g2 H2 s2 hR2=>?_⟩
  obtain ⟨dx2,hI2⟩:=id hR2;have s02:=s1.trans s2;refine ⟨_,U,r,dx2,_,U,hI2,rf4 _,r,s,b,n+8,U,hR2,But.seq s02 hS nsr,nsr,g2,sz,fun g=>(short (by omega)).of s02,fun g3 H3 s3 hR3=>?_⟩
  have s03:=s02.trans s3;have g12:¬ b.length<n+12:=by omega
  have one:oneRun a b m n last=(if iJ a last (ofLe (part b n 4)) (ofLe (part b (n+4) 4)) (ofLe (part b (n+8) 4)) then .error ⟨3,n⟩
    else if b.length<n+12+ofLe (part b (n+8) 4) then .error ⟨1,b.length⟩
    else if openOf (part b (n+12) (ofLe (part b (n+8) 4)))≠[]/\((ofLe (part b n 4)+ofLe (part b (n+4) 4) == a.length)=false∨m≠0) then .error ⟨3,n+12+ofLe (part b (n+8) 4)-(openOf (part b (n+12) (ofLe (part b (n+8) 4)))).length⟩
     else .ok (⟨ofLe (part b n 4),ofLe (part b (n+4) 4),part b (n+12) (ofLe (part b (n+8) 4))⟩,n+12+ofLe (part b (n+8) 4))):=by
   unfold oneRun;rw [F9 g12]
  generalize oneRun a b m n last=R at one k1 k2;generalize ofLe (part b n 4)=f' at one ⊢;generalize ofLe (part b (n+4) 4)=d' at one ⊢;generalize ofLe (part b (n+8) 4)=z at one ⊢;have hL3:=hL.but hR s03;refine ⟨_,U,_,U,_,U,_,U,_,U,f',d',z,last,p,a,U,hL3,La,_,U,?_⟩;refine gh (fun g=>?_) (fun g=>?_)
  ·have g:iJ a last f' d' z:=by
    by_cases q:iJ a last f' d' z
    ·exact q
    ·rw [Gc q] at g;exact absurd g (by decide)
   rw [Ga g] at one;exact ⟨_,U,iW ((k1 _ one).of s03).to⟩
  have g:¬ iJ a last f' d' z:=fun q=>g (by rw [Gb q];rfl)
  rw [F9 g] at one;obtain ⟨dx3,hI3⟩:=id hR3;refine ⟨_,U,r,dx3,_,U,hI3,rfR _,_,U,r,s,b,n+12,z,U,hR3,But.seq s03 hS nsr,nsr,g3,sz,fun q=>?_,fun q H4 l s4 hR4 nl hl=>?_⟩
  ·rw [Ga q] at one
   exact (k1 _ one).of s03
  have q':¬ b.length<n+12+z:=by omega
  rw [F9 q'] at one;have zl:=Lb.gF b (n+12) z q;generalize HU b (n+12) z=y at one hl zl;refine ⟨l,y,U,SqL.of hl,by omega,fun H5 t s5 nt ht=>?_⟩
  have s04:=s03.trans s4;have s05:=s04.trans s5.but;have hR5:=hR4.same s5;have hL5:=hL.but hR s05;obtain ⟨as,hp5,hl5⟩:=id hL5;obtain ⟨ts,ht5,htl⟩:=id ht;have al:(as.map V.ref).length=a.length:=by rw [Ge,hl5.len]
  have fin:openOf y=[]∨(f'+d'=a.length/\m=0)->∀ (u:Gf),H5 u=none->Q (.ref u) (upd H5 u (.tup [.int f',.int d',.ref t])):=fun hc u nu=>by
   rw [F9 (by
    rintro ⟨c1,c2⟩
    rcases hc with hc | ⟨hc1,hc2⟩
    ·exact c1 hc
    ·rcases c2 with c2 | c2
     ·simp [hc1] at c2
     ·exact c2 hc2)] at one
   refine k2 _ one _ u t (s05.new nu) (hR5.same (L2.upN nu)) (pW s05 hR5 nu) (pW s04 hR4 nt) eC (ht.same (L2.upN nu))
  have bads:openOf y≠[]->((f'+d' == a.length)=false∨m≠0)->∃ ln bs a0,openOf y=ln/\ts=bs++[a0]/\H5 a0=some (.tup (ln.map vb))/\fY CF E (3:Nat) ((n+12+z-ln.length:Nat):Int) r H:=fun c1 c2=>by
   rw [Ga ⟨c1,c2⟩] at one;have lk:=(px y).mp c1;cases e:(linesOf y).getLast? with
   | none =>
    unfold lastLacks at lk;rw [e] at lk;cases lk
   | some ln =>
    have eo:=uH e lk;have hne:linesOf y≠[]:=fun h=>by rw [h] at e;cases e
    have hts:ts≠[]:=fun h=>hne (HQ.mp (by rw [← htl.len,h];rfl))
    refine ⟨ln,ts.dropLast,ts.getLast hts,eo,(JC hts).symm,?_,?_⟩
    ·refine htl.at_ (ts.length-1) _ ln ?_ ?_
     ·rw [List.getLast_eq_getElem hts,Gk]
     ·rw [htl.len,← List.getLast?_eq_getElem?]
      exact e
    ·have:=k1 _ one
     rw [eo] at this;exact this
  by_cases hm:m=0
  ·rw [Gb hm]
   refine ⟨_,U,_,U,(Ga U).mpr ?_⟩;refine ⟨_,U,_,U,_,_,U,U,_,U,p,_,U,.inl (SqL.of hp5),U,?_⟩;rw [al];by_cases g6:f'+d'=a.length
   ·rw [show decide (V.int ((f':Int)+d')=V.int (a.length:Nat))=true from Gb (by rw [← g6];rfl)]
    refine ⟨_,U,t,_,U,ht,_,U,?_⟩;refine gh (fun g7=>?_) (fun g7=>?_)
    ·refine ⟨_,U,_,U,(F9 (by decide)).mpr ?_⟩
     exact ⟨_,rfl,_,rfl,_,rfl,(by show 3<=sizeLine;decide),fin (.inr ⟨g6,hm⟩)⟩
    ·refine (F9 (by decide)).mpr ?_
     exact ⟨_,rfl,_,rfl,_,rfl,(by show 3<=sizeLine;decide),fin (.inr ⟨g6,hm⟩)⟩
   ·rw [show decide (V.int ((f':Int)+d')=V.int (a.length:Nat))=false from Gc (fun q=>g6 (by injection q with q;omega))]
    refine ⟨_,U,t,_,U,ht,_,U,?_⟩;refine gh (fun g7=>?_) (fun g7=>?_)
    ·refine ⟨_,U,_,U,(Ga U).mpr ?_⟩
     obtain ⟨ln,bs,a0,e1,e2,e3,e4⟩:=bads ((px y).mpr g7) (.inl (by simpa using g6));subst e2;have ei:atI ((bs++[a0]).map V.ref) (-1)=some (V.ref a0):=by
      rw [Gr];exact pX _ _
     obtain ⟨dx5,hI5⟩:=id hR5;refine ⟨_,U,r,C,dx5,_,_,U,hI5,T.cl,T.nA,kh _ _,_,U,_,U,t,_,_,_,U,U,SqL.of ht5,ei,a0,_,U,.inr (SqT.of e3),_,_,U,U,?_⟩;rw [Ge];have ll:ln.length<=z:=by
      rw [← zl,← e1];exact Ae y
     have e5:((n+12+z:Nat):Int)-(ln.length:Nat)=((n+12+z-ln.length:Nat):Int):=by omega
     show _/\_;refine iW ?_;show je CF E 3 (((n+12+z:Nat):Int)-(ln.length:Nat)) H5;rw [e5];exact (e4.of s05).to
    ·refine (F9 (by decide)).mpr ?_
     have e0:openOf y=[]:=by
      by_cases h:openOf y=[]
      ·exact h
      ·exact absurd ((px y).mp h) g7
     exact ⟨_,rfl,_,rfl,_,rfl,(by show 3<=sizeLine;decide),fin (.inl e0)⟩
  ·rw [Gc hm]
   refine ⟨_,U,_,U,(F9 (by decide)).mpr ?_⟩;refine ⟨_,U,t,_,U,ht,_,U,?_⟩;refine gh (fun g7=>?_) (fun g7=>?_)
   ·refine ⟨_,U,_,U,(Ga U).mpr ?_⟩
    obtain ⟨ln,bs,a0,e1,e2,e3,e4⟩:=bads ((px y).mpr g7) (.inr hm);subst e2;have ei:atI ((bs++[a0]).map V.ref) (-1)=some (V.ref a0):=by
     rw [Gr];exact pX _ _
    obtain ⟨dx5,hI5⟩:=id hR5;refine ⟨_,U,r,C,dx5,_,_,U,hI5,T.cl,T.nA,kh _ _,_,U,_,U,t,_,_,_,U,U,SqL.of ht5,ei,a0,_,U,.inr (SqT.of e3),_,_,U,U,?_⟩;rw [Ge];have ll:ln.length<=z:=by
     rw [← zl,← e1];exact Ae y
    have e5:((n+12+z:Nat):Int)-(ln.length:Nat)=((n+12+z-ln.length:Nat):Int):=by omega
    show _/\_;refine iW ?_;show je CF E 3 (((n+12+z:Nat):Int)-(ln.length:Nat)) H5;rw [e5];exact (e4.of s05).to
   ·refine (F9 (by decide)).mpr ?_
    have e0:openOf y=[]:=by
     by_cases h:openOf y=[]
     ·exact h
     ·exact absurd ((px y).mp h) g7
    exact ⟨_,rfl,_,rfl,_,rfl,(by show 3<=sizeLine;decide),fin (.inl e0)⟩
theorem _root_.L2.eT.butOf {r:Gf} {H H1 H2:Hp} (s:eT H H1) (b:But r H1 H2) (n:H r=none):eT H H2:=fun x o e=>b x o (s x o e) (eW e n)
theorem je.b {C:Gf} {E:XK} {k p:Int} {r:Gf} {H H1:Hp} (h:je C E k p H) (s:eT H H1) (n:H r=none):fY C E k p r H1:=fun H' dx s1 e=>h H' dx (s.butOf s1 n) e
theorem FH {r D:Gf} {H H':Hp} (s:But r H H'):But r (del H D) (del H' D):=fun b o e n=>by
 by_cases h:b=D
 ·subst h;rw [ip] at e;cases e
 ·rw [gj h] at e ⊢
  exact s b o e n
theorem kZ.butR {C:Gf} {H H':Hp} {r a:Gf} {n:Nat} {as:List Gf} {xs:List k9} (l:kZ H as xs) (h:gT C H r a n) (s:But r H H'):kZ H' as xs:=⟨l.len,fun i a x e1 e2=>(l.at_ i a x e1 e2).butR h s⟩
theorem gX {H H':Hp} {x dx C:Gf} (nx:H x=none) (nd:H dx=none) (s:But x (upd (upd H dx (.own x)) x (.ins C dx [])) H'):eT H H':=fun b o e=>by
 have bx:=eW e nx;refine s b o ?_ bx;rw [eK bx,eK (eW e nd)];exact e
theorem uk:eM ["row","old","reader","count","patch","end_before","run"] ["row","old"] (defScope lP):=mkSc
theorem A4 {f C CF:Gf} {fd:GG} (F:Fun K "read_patch" "read_patch" lP f fd) (TP:TxP K mg) (T:TxR K mg C) (GC:Cl P w K mg base 1 C "Reader" ["self","row"] (vq K C)) (GH:Md P w K mg base 12 C "read_head" ["self","head"] (yf K C CF)) (G4:Md P w K mg base 12 C "read_four" ["self"] (m7 K C CF))
  (GE:Md P w K mg base 11 C "read_end" ["self"] (B4 K C CF)) (GR:Fn P w K mg base 13 "read_run" ["reader","end_before","is_last","old"] (ua K C CF)) :
  ff P w K mg base (CXF P w) 14 f fd ["row","old"] (mz K CF):=by
 refine okX (k:=13) F uk fun cdv A outer s H vs Q E hr h=>?_
 ·obtain ⟨s,p,b,a,rfl,hS,sz,hL,La,k1,k2⟩:=h
  have nd:=uk.nd;have hr2:fi 2 _:=hr.mono (by decide);have hr12:fi 12 _:=hr.mono (by decide);have hr11:fi 11 _:=hr.mono (by decide);refine ⟨_,eE (eO (i:=2) nd U (Gy U) (uE GC hr2 U fD (eA (pv 0) eF)))
   (eE (fe (f6 (pv 2) T.cl GH hr12 fD (eA (Aa TP.phead U) eF)))
   (eE (eO (i:=3) nd U (Gy U) (iF (pv 2) T.cl G4 hr12 fD))
   (eE (eO (i:=4) nd U (Gy U) (fP eF))
   (eE (eO (i:=5) nd U (Gy U) (uC qf eN))
   (eE (mF KI (eX qP (eU eL U T.len Gz (eA (pv 4) eF)) (pv 3) (fb _))
    (eE (eO (i:=6) nd U (Gy U) (eV GR hr U fD (eA (pv 2) (eA (pv 5) (eA (gC io (eU eL U T.len Gz (eA (pv 4) eF)) (fA iG (pv 3) eN) (fb _)) (eA (pv 1) eF))))))
    (eE (eO (i:=5) nd U (Gy U) (fA gx (fM qB (pv 6) eN (fun _ _=>U)) (fM qB (pv 6) eN (fun _ _=>U))))
    (eI (fe (gm Gw HJ HI gG (pv 4) (eA (pv 6) eF)))))))
   (eE (fe (iF (pv 2) T.cl GE hr11 fD))
   (eI (eP (pv 4))))))))),?_⟩
  refine ⟨_,U,fun r dr nr ndr ner=>?_⟩
  refine ⟨r,dr,s,U,eC,fun H1 hR1 b1=>⟨U,?_⟩⟩
  have s1:eT H H1:=gX nr ndr b1;have rn:∀ {m:G9} (x:Int),¬ m = "at" -> ¬ m = "row" -> (rf s x).lookup m=none:=fun x h1 h2=>mE _ _ h1 h2
  obtain ⟨dx1,hI1⟩:=id hR1;have sr:s≠r:=eW hS nr;refine ⟨_,U,r,dx1,_,U,hI1,rn _ (by decide +kernel) (by decide +kernel),fun hd hhd=>?_⟩
  refine ⟨r,s,hd,b,Hw "SWV1",0,U,hR1,SqL.of (s1 _ _ hS),sr,G5 _,sz,hhd,fun e he=>?_,fun he H2 b2 hR2=>?_⟩
  ·rw [Ip] at he
   refine (k1 e ?_).b s1 nr;unfold readPatch;rw [he]
  rw [Ip] at he;have s2:=s1.butOf b2 nr;obtain ⟨dx2,hI2⟩:=id hR2;have ml:=Lb.sI _ _ _ he;have rp:readPatch a b=(if b.length<8 then .error ⟨1,b.length⟩ else match readRuns a b (ofLe (HU b 4 4)) 8 none with
   | .error e => .error e
   | .ok x=>if x.2<b.length then .error ⟨4,x.2⟩ else .ok x.1):=by
   unfold readPatch;rw [he];rfl
  have al:(Hw "SWV1").length=4:=rfl;rw [al] at ml;refine ⟨_,U,r,dx2,_,U,hI2,rn _ (by decide +kernel) (by decide +kernel),r,s,b,4,U,hR2,SqL.of (s2 _ _ hS),sr,ml,sz,fun g=>?_,fun g H3 b3 hR3=>?_⟩
  ·rw [Ga (by omega)] at rp
   exact (k1 _ rp).b s2 nr
  rw [F9 (by omega)] at rp;have s3:=s2.butOf b3 nr;generalize ofLe (HU b 4 4)=cnt at rp ⊢;refine ⟨G5 _,fun D nD=>?_⟩
  refine ⟨_,U,?_⟩;let Inv:Nat->L2.St->Hp->Prop:=fun i σ H'=>∃ (n:Nat) (last:Option Nat) (done:List Ju) (us:List Gf) (v6:Option V),σ=[some (.ref s),some (.ref p),some (.ref r),some (.int cnt),some (.ref D),some (.int (lastI last)),v6]/\eT H H'/\gT C H' r s n/\n<=b.length/\8+12*i<=n /\
   H' D=some (.lst (us.map V.ref))/\kZ (del H' D) us (done.map ofPiece)/\done.length=i/\i<=cnt/\readRuns a b cnt 8 none=(readRuns a b (cnt-i) n last).map fun x=>(done++x.1,x.2)
  have nD0:H D=none:=s3.free nD;have rD:r≠D:=fun z=>by
   obtain ⟨dx,h⟩:=hR3;rw [z,nD] at h;cases h
  refine ⟨fun m σ H'=>∃ i,m=cnt-i/\Inv i σ H',⟨cnt,0,U,8,none,[],[],none,U,s3.new nD,hR3.same (L2.upN nD),g,Go _,eC,kZ.nil,U,G5 _,?_⟩,?_⟩
  ·show _=(readRuns a b cnt 8 none).map fun x=>(x.1,x.2)
   cases readRuns a b cnt 8 none <;> rfl
  rintro m σ H4 ⟨i,rfl,n,last,done,us,v6,rfl,s4,hR4,hn,hi,hD,pt,dl,ic,er⟩
  have ul:(us.map V.ref).length=i:=by rw [Ge,pt.len,Ge,dl]
  refine ⟨_,U,D,_,U,.inl (SqL.of hD),_,U,_,_,U,U,_,U,?_⟩;rw [ul];refine gh (fun gi=>?_) (fun gi=>?_)
  ·have gi:(i:Int)<(cnt:Nat):=Gd gi
   have gi:i<cnt:=by omega
   refine ⟨Inv (i+1),fun σ' H' h=>⟨cnt-(i+1),by omega,i+1,U,h⟩,?_⟩
   have em:cnt-i=(cnt-(i+1))+1:=by omega
   rw [em,Cz] at er;refine ⟨_,U,_,U,_,U,D,_,U,.inl (SqL.of hD),_,U,_,_,U,U,U,?_⟩;rw [ul];have eb:decide (V.int (i:Nat)=V.int ((cnt:Int)-1))=decide (cnt-(i+1)=0):=decide_eq_decide.mpr ⟨fun q=>by injection q with q;omega,fun q=>by congr 1;omega⟩
   refine ⟨_,U,r,s,p,b,a,n,cnt-(i+1),last,by rw [eb];rfl,hR4,SqL.of (s4 _ _ hS),sr,hn,sz,hL.same s4,La,fun e he=>?_,fun x hx H5 t q b5 hR5 nt nq et lq=>?_⟩
   ·rw [he] at er
    rw [er] at rp;exact (k1 _ rp).b s4 nr
   ·rw [hx] at er
    obtain ⟨ok1,ok2⟩:=A2 hx;have s5:=s4.butOf b5 nr;refine ⟨_,U,t,_,_,_,U,U,SqT.of et,U,_,U,t,_,_,_,U,U,SqT.of et,U,_,_,U,U,?_⟩;have hD5:=b5 _ _ hD (HA rD);refine ⟨_,U,.inl ⟨U,_,SqL.of hD5⟩,_,U,D,_,_,U,U,hD5,?_,?_⟩
    ·rw [ul,Hj]
     rw [Hj] at sz;omega
    obtain ⟨dx5,hI5⟩:=id hR5;have hd4:gT C (del H4 D) r s n:=by
     obtain ⟨dx4,hI4⟩:=id hR4;exact ⟨dx4,by rw [gj rD];exact hI4⟩
    have htD:jA (del H5 D) t (ofPiece x.1):=by
     refine ⟨q,?_,?_⟩
     ·rw [gj (fG et hD5 (by intro z;cases z))]
      exact et
     ·obtain ⟨as,e1,e2⟩:=lq
      refine ⟨as,?_,e2.same fun y ys z=>?_⟩
      ·rw [gj (fun z=>by rw [z,hD] at nq;cases nq)]
       exact e1
      ·rw [gj (fG z hD5 (by intro z;cases z))]
       exact z
    refine ⟨x.2,some (x.1.from_+x.1.dropped),done++[x.1],us++[t],_,U,s5.own nD0,?_,ok2,by omega,?_,?_,?_,by omega,?_⟩
    ·refine ⟨dx5,?_⟩
     rw [eK rD];exact hI5
    ·rw [eC,Gr]
     rfl
    ·rw [rE,Gr]
     exact (pt.butR hd4 (FH b5)).snoc htD
    ·rw [Gi,dl]
     rfl
    ·rw [er]
     show Except.map _ (Except.map (fun (y:List Ju×Nat)=>(x.1::y.1,y.2)) (readRuns a b (cnt-(i+1)) x.2 (some (x.1.from_+x.1.dropped))))=Except.map _ (readRuns a b (cnt-(i+1)) x.2 (some (x.1.from_+x.1.dropped)))
     cases readRuns a b (cnt-(i+1)) x.2 (some (x.1.from_+x.1.dropped)) with
     | error e=>rfl
     | ok y =>
      show Except.ok _=Except.ok _;simp
  ·have gi:¬ (i:Int)<(cnt:Nat):=fun q=>gi (Gb q)
   have:i=cnt:=by omega
   subst this;rw [Jz] at er;have er:readRuns a b i 8 none = .ok (done++[],n):=er;rw [Iq] at er;rw [er] at rp;obtain ⟨dx4,hI4⟩:=id hR4;refine ⟨_,U,r,dx4,_,U,hI4,rn _ (by decide +kernel) (by decide +kernel),r,s,b,n,U,hR4,SqL.of (s4 _ _ hS),fun q=>?_,fun q=>?_⟩
   ·have rp:readPatch a b=(if n<b.length then .error ⟨4,n⟩ else .ok done):=rp
    rw [Ga q] at rp;exact (k1 _ rp).of s4
   ·have rp:readPatch a b=(if n<b.length then .error ⟨4,n⟩ else .ok done):=rp
    rw [F9 (by omega)] at rp;exact ⟨_,U,k2 _ rp H4 D s4 nD0 ⟨us,hD,pt.same jV⟩⟩
def mf (q:Gf) (n p:Int):List (G9×V):=putF "first_clash" (.int p) (putF "clashes" (.int n) (putF "row" (.ref q) []))
def mr (C:Gf) (H:Hp) (m q:Gf) (s:MSt):Prop:=∃ dx,H m=some (.ins C dx (mf q s.2.1 s.2.2))/\H q=some (.lst (s.1.map vb))
theorem mM (q:Gf) (n p:Int):(mf q n p).lookup ("row":G9)=some (.ref q):=by
 unfold mf;rw [eJ,F9 (by decide +kernel),eJ,F9 (by decide +kernel),eJ,Ga rfl]
theorem ma (q:Gf) (n p:Int):(mf q n p).lookup ("clashes":G9)=some (.int n):=by
 unfold mf;rw [eJ,F9 (by decide +kernel),eJ,Ga rfl]
theorem DH (q:Gf) (n p:Int):(mf q n p).lookup ("first_clash":G9)=some (.int p):=by
 unfold mf;rw [eJ,Ga rfl]
theorem DG (q:Gf) (n p:Int) {m:G9} (h1:¬ m = "first_clash") (h2:¬ m = "clashes") (h3:¬ m = "row"):(mf q n p).lookup m=none:=by
 unfold mf;rw [eJ,F9 h1,eJ,F9 h2,eJ,F9 h3];rfl
structure TxM (K:Gh) (mg:G9->Option Gg) (C:Gf):Prop where
 cl:Cls K C
 nR:fq K C "row"
 nC:fq K C "clashes"
 nF:fq K C "first_clash"
 len:mg "len"=none
 dict:mg "dict"=none
 line_end:fW mg "LINE_END" 10
 mlen:fW mg "MARK_LENGTH" 7
 before:fW mg "MARK_BEFORE" 60
 between:fW mg "MARK_BETWEEN" 61
 behind:fW mg "MARK_BEHIND" 62
def Bt (m q:Gf) (H H':Hp):Prop:=∀ b o,H b=some o->b≠m->b≠q->H' b=some o
theorem Bt.refl {m q:Gf} {H:Hp}:Bt m q H H:=fun _ _ e _ _=>e
theorem Bt.trans {m q:Gf} {H H1 H2:Hp} (a:Bt m q H H1) (b:Bt m q H1 H2):Bt m q H H2:=fun c o e n n'=>b c o (a c o e n n') n n'
theorem Bt.updm {m q:Gf} {H H1:Hp} {o:HO} (a:Bt m q H H1):Bt m q H (L2.upd H1 m o):=fun c u e x y=>by
 rw [eK x];exact a c u e x y
theorem Bt.updq {m q:Gf} {H H1:Hp} {o:HO} (a:Bt m q H H1):Bt m q H (L2.upd H1 q o):=fun c u e x y=>by
 rw [eK y];exact a c u e x y
theorem _root_.L2.eT.bt {m q:Gf} {H H':Hp} (s:eT H H'):Bt m q H H':=fun b o e _ _=>s b o e
theorem _root_.L2.eT.btOf {m q:Gf} {H H1 H2:Hp} (s:eT H H1) (b:Bt m q H1 H2) (n:H m=none) (n':H q=none):eT H H2:=fun x o e=>b x o (s x o e) (eW e n) (eW e n')
theorem mr.ne {C:Gf} {H:Hp} {m q:Gf} {s:MSt} (h:mr C H m q s):m≠q:=by
 obtain ⟨dx,h1,h2⟩:=h;exact fG h1 h2 (by intro z;cases z)
theorem mr.same {C:Gf} {H H':Hp} {m q:Gf} {s:MSt} (h:mr C H m q s) (k:eT H H'):mr C H' m q s:=let ⟨dx,h1,h2⟩:=h;⟨dx,k _ _ h1,k _ _ h2⟩
theorem eS.bt {C:Gf} {H H':Hp} {m q p:Gf} {s:MSt} {ls:List Gn} (l:eS H p ls) (h:mr C H m q s) (n:p≠q) (k:Bt m q H H'):eS H' p ls:=by
 obtain ⟨as,e,hl⟩:=l;obtain ⟨dx,h1,h2⟩:=h;exact ⟨as,k _ _ e (fG e h1 (by intro z;cases z)) n,hl.same fun a xs z=>k _ _ z (fG z h1 (by intro z;cases z)) (fG z h2 (by intro z;cases z))⟩
def zw (C:Gf):Sp:=fun vs H Q _=>∃ (m dx:Gf),vs=[.ref m]/\H m=some (.ins C dx [])/\∀ (H':Hp) (q:Gf),H q=none->mr C H' m q ([],0,0)->But m H H'->Q .non H'
def spAddLines (K:Gh) (C:Gf):Sp:=fun vs H Q _=>∃ (m q p:Gf) (s:MSt) (ls:List Gn),vs=[.ref m,.ref p]/\mr C H m q s/\eS H p ls/\s.1.length+(joinedL ls).length<=sizeLine/\∀ H':Hp,Bt m q H H'->mr C H' m q (addLines ls s)->Q .non H'
def ug (K:Gh) (C:Gf):Sp:=fun vs H Q _=>∃ (m q:Gf) (s:MSt) (c:UInt8),vs=[.ref m,vb c]/\mr C H m q s/\s.1.length+9<=sizeLine/\∀ H':Hp,Bt m q H H'->mr C H' m q (marked s.1 (Gq 7 c),s.2)->Q .non H'
def si (K:Gh) (C:Gf):Sp:=fun vs H Q _=>∃ (m q p p':Gf) (s:MSt) (A B:List Gn),vs=[.ref m,.ref p,.ref p']/\mr C H m q s/\eS H p A/\eS H p' B/\p≠q/\p'≠q/\s.1.length+(joinedL A).length+(joinedL B).length+27<=sizeLine /\
 ∀ H':Hp,Bt m q H H'->mr C H' m q (jc s.1 A B,s.2.1+1,if s.2.1=0 then s.1.length else s.2.2)->Q .non H'
def sg (K:Gh) (C:Gf):Sp:=fun vs H Q _=>∃ (m q po p p':Gf) (s:MSt) (O A B:List Gn),vs=[.ref m,.ref po,.ref p,.ref p']/\mr C H m q s/\eS H po O/\eS H p A/\eS H p' B/\p≠q/\p'≠q/\s.1.length+(joinedL A).length+(joinedL B).length+27<=sizeLine /\
 ∀ H':Hp,Bt m q H H'->mr C H' m q (addPlace O A B s)->Q .non H'
theorem Ck:eM ["self"] ["self"] (defScope kU):=mkSc
theorem Dg {f C:Gf} {fd:GG} (F:Fun K "__init__" "Merged.__init__" kU f fd) (T:TxM K mg C):ff P w K mg base (CXF P w) 1 f fd ["self"] (zw C):=by
 refine okN (k:=0) F Ck fun cdv A outer s H vs Q E hr h=>?_
 ·obtain ⟨m,dx,rfl,he,q⟩:=h
  refine ⟨_,eE (gw (pv 0) (fP eF) U) (eE (gw (pv 0) eN U) (eI (gw (pv 0) eN U))),?_⟩;refine ⟨G5 _,fun r nr=>?_⟩
  have hm:=L2.upN (o := .lst []) nr _ _ he;refine ⟨_,rfl,m,C,dx,[],rfl,hm,T.cl,T.nR,(by show 0<1000;decide),?_⟩;refine ⟨_,rfl,m,C,dx,_,rfl,eC,T.cl,T.nC,(by show 1<1000;decide),?_⟩;refine ⟨_,rfl,m,C,dx,_,rfl,eC,T.cl,T.nF,(by show 2<1000;decide),?_⟩;have rm:r≠m:=fun z=>by rw [z,he] at nr;cases nr
  refine q _ r nr ⟨dx,eC,?_⟩ ((But.refl.new nr).upd.upd.upd);rw [eK rm,eK rm,eK rm,eC];rfl
theorem AS:eM ["self","lines"] ["self","lines"] (defScope iC):=mkSc
theorem Be {f C:Gf} {fd:GG} (F:Fun K "add_lines" "Merged.add_lines" iC f fd) (T:TxM K mg C) (J:Fn P w K mg base 11 "join_lines" ["lines"] (qi K)):ff P w K mg base (CXF P w) 12 f fd ["self","lines"] (spAddLines K C):=by
 refine okN (k:=11) F AS fun cdv A outer s H vs Q E hr h=>?_
 ·obtain ⟨m,q,p,s,ls,rfl,hM,hL,sz,k⟩:=h
  obtain ⟨dx,h1,h2⟩:=id hM;refine ⟨_,eI (fe (gm Gw Hc Hb fQ (eQ (pv 0) U) (eA (eV J hr U eG (eA (pv 1) eF)) eF))),?_⟩;refine ⟨_,U,m,C,dx,_,_,U,h1,T.cl,T.nR,mM _ _ _,.inl ⟨U,_,SqL.of h2⟩,_,U,p,ls,U,hL,by omega,fun H1 j s1 nj hj=>?_⟩
  refine ⟨q,j,_,_,U,U,s1 _ _ h2,hj,by rw [Ge,Ge];exact sz,?_⟩;refine k _ s1.bt.updq ⟨dx,?_,?_⟩
  ·rw [eK hM.ne]
   exact s1 _ _ h1
  ·rw [eC]
   unfold addLines;rw [Gr]
theorem Cy:eM ["self","sign"] ["self","sign"] (defScope iT):=mkSc
theorem Dz {f C:Gf} {fd:GG} (F:Fun K "add_mark" "Merged.add_mark" iT f fd) (T:TxM K mg C) (G:Fn P w K mg base 1 "lacks_end" ["row"] (qY K)):ff P w K mg base (CXF P w) 2 f fd ["self","sign"] (ug K C):=by
 refine okN (k:=1) F Cy fun cdv A outer s H vs Q E hr h=>?_
 ·obtain ⟨m,q,s,c,rfl,hM,sz,k⟩:=h
  obtain ⟨dx,h1,h2⟩:=id hM;refine ⟨_,eE (fF (kj (eV G hr U eG (eA (eQ (pv 0) U) eF)))
    (eI (fe (gm Gw HJ HI gG (eQ (pv 0) U) (eA (fO T.line_end U) eF)))) eY)
   (eI (fe (gm Gw Hc Hb fQ (eQ (pv 0) U) (eA (fA l9 (fA yr (fP (eA (pv 1) eF)) (fO T.mlen U)) (fP (eA (fO T.line_end U) eF))) eF)))),?_⟩
  refine ⟨_,U,m,C,dx,_,_,U,h1,T.cl,T.nR,mM _ _ _,q,s.1,U,.inl (SqL.of h2),_,U,?_⟩;refine gh (fun g=>?_) (fun g=>?_)
  ·refine ⟨_,U,m,C,dx,_,_,U,h1,T.cl,T.nR,mM _ _ _,.inl ⟨U,_,SqL.of h2⟩,q,_,_,U,U,h2,by rw [Ge];omega,?_⟩
   have h2':upd H q (.lst (s.1.map vb++[V.int 10])) q=some (.lst ((s.1++[LF]).map vb)):=by
    rw [eC,Gr];rfl
   have h1':upd H q (.lst (s.1.map vb++[V.int 10])) m=some (.ins C dx (mf q s.2.1 s.2.2)):=by
    rw [eK hM.ne];exact h1
   have b1:Bt m q H (upd H q (.lst (s.1.map vb++[V.int 10]))):=Bt.refl.updq;have mk:marked s.1 (Gq 7 c)=(s.1++[LF])++(Gq 7 c++[LF]):=by
    unfold lacks at g;rw [G8] at g;unfold marked;rw [Ga ⟨Gd g.1,g.2⟩]
   generalize upd H q (.lst (s.1.map vb++[V.int 10]))=H1 at h2' h1' b1 ⊢;refine ⟨_,rfl,m,C,dx,_,_,rfl,h1',T.cl,T.nR,mM _ _ _,.inl ⟨rfl,_,SqL.of h2'⟩,_,rfl,(by show 1<=sizeLine;decide),fun l1 nl1=>?_⟩
   refine ⟨l1,7,_,rfl,rfl,eC,by decide,by decide,(by show 1*7<=sizeLine;decide),fun l2 nl2=>?_⟩
   refine ⟨(by show 1<=sizeLine;decide),fun l3 nl3=>?_⟩
   refine ⟨l2,l3,_,_,rfl,rfl,L2.upN nl3 _ _ eC,eC,(by show 8<=sizeLine;decide),fun l4 nl4=>?_⟩
   have sn:eT _ _:=(((L2.upN nl1).trans (L2.upN nl2)).trans (L2.upN nl3)).trans (L2.upN (o := .lst ((Gq (Int.toNat 7) [vb c]).flatten++[V.int 10])) nl4);have n4:l4≠q:=fun z=>by
    have:=(((L2.upN nl1).trans (L2.upN nl2)).trans (L2.upN (o := .lst [V.int 10]) nl3)) _ _ h2';rw [z,this] at nl4;cases nl4
   refine ⟨q,l4,_,_,U,U,sn _ _ h2',eC,?_,k _ ((b1.trans sn.bt).updq) ⟨dx,?_,?_⟩⟩
   ·rw [Ge]
    show _+8<=_;rw [Gi];show _+1+8<=_;omega
   ·rw [eK hM.ne]
    exact sn _ _ h1'
   ·rw [eC]
    show some (HO.lst ((s.1++[LF]).map vb++[vb c,vb c,vb c,vb c,vb c,vb c,vb c,V.int 10]))=_;rw [mk];simp only [Gr];rfl
  ·have mk:marked s.1 (Gq 7 c)=s.1++(Gq 7 c++[LF]):=by
    unfold marked;rw [F9 fun z=>g (by unfold lacks;rw [G8];exact ⟨Gb z.1,z.2⟩)]
   have b1:Bt m q H H:=Bt.refl;refine ⟨_,rfl,m,C,dx,_,_,rfl,h1,T.cl,T.nR,mM _ _ _,.inl ⟨rfl,_,SqL.of h2⟩,_,rfl,(by show 1<=sizeLine;decide),fun l1 nl1=>?_⟩
   refine ⟨l1,7,_,rfl,rfl,eC,by decide,by decide,(by show 1*7<=sizeLine;decide),fun l2 nl2=>?_⟩
   refine ⟨(by show 1<=sizeLine;decide),fun l3 nl3=>?_⟩
   refine ⟨l2,l3,_,_,rfl,rfl,L2.upN nl3 _ _ eC,eC,(by show 8<=sizeLine;decide),fun l4 nl4=>?_⟩
   have sn:eT _ _:=(((L2.upN nl1).trans (L2.upN nl2)).trans (L2.upN nl3)).trans (L2.upN (o := .lst ((Gq (Int.toNat 7) [vb c]).flatten++[V.int 10])) nl4);have n4:l4≠q:=fun z=>by
    have:=(((L2.upN nl1).trans (L2.upN nl2)).trans (L2.upN (o := .lst [V.int 10]) nl3)) _ _ h2;rw [z,this] at nl4;cases nl4
   refine ⟨q,l4,_,_,U,U,sn _ _ h2,eC,?_,k _ ((b1.trans sn.bt).updq) ⟨dx,?_,?_⟩⟩
   ·rw [Ge]
    show _+8<=_;omega
   ·rw [eK hM.ne]
    exact sn _ _ h1
   ·rw [eC]
    show some (HO.lst ((s.1).map vb++[vb c,vb c,vb c,vb c,vb c,vb c,vb c,V.int 10]))=_;rw [mk];simp only [Gr];rfl
theorem AU:eM ["self","ours","theirs"] ["self","ours","theirs"] (defScope iD):=mkSc
theorem js (o m:Gn):(marked o m).length<=o.length+m.length+2:=by
 unfold marked;split <;> simp <;> omega
theorem F8:Hw "<<<<<<<"=Gq 7 60:=by decide
theorem F7:Hw "======="=Gq 7 61:=by decide
theorem F6:Hw ">>>>>>>"=Gq 7 62:=by decide
theorem Bg {f C:Gf} {fd:GG} (F:Fun K "add_clash" "Merged.add_clash" iD f fd) (T:TxM K mg C) (GM:Md P w K mg base 2 C "add_mark" ["self","sign"] (ug K C)) (GL:Md P w K mg base 12 C "add_lines" ["self","lines"] (spAddLines K C)):ff P w K mg base (CXF P w) 13 f fd ["self","ours","theirs"] (si K C):=by
 refine okN (k:=12) F AU fun cdv A outer s H vs Q E hr h=>?_
 ·obtain ⟨m,q,p,p',s,A,B,rfl,hM,hA,hB,na,nb,sz,k⟩:=h
  obtain ⟨out,n,fc⟩:=s;obtain ⟨dx,h1,h2⟩:=id hM;have hr2:fi 2 _:=hr.mono (by decide);refine ⟨_,eE (fF (eX io (eQ (pv 0) U) eN (fb _)) (eI (gw (pv 0) (eU eL U T.len Gz (eA (eQ (pv 0) U) eF)) U)) eY)
   (eE (nz (pv 0) eN vO)
   (eE (fe (f6 (pv 0) T.cl GM hr2 eG (eA (fO T.before U) eF)))
   (eE (fe (f6 (pv 0) T.cl GL hr eG (eA (pv 1) eF)))
   (eE (fe (f6 (pv 0) T.cl GM hr2 eG (eA (fO T.between U) eF)))
   (eE (fe (f6 (pv 0) T.cl GL hr eG (eA (pv 2) eF)))
   (eI (fe (f6 (pv 0) T.cl GM hr2 eG (eA (fO T.behind U) eF))))))))),?_⟩
  have mno:∀ {x:G9} (a b:Int),¬ x = "first_clash" -> ¬ x = "clashes" -> ¬ x = "row" -> (mf q a b).lookup x=none:=fun a b c1 c2 c3=>DG _ _ _ c1 c2 c3
  have s7:∀ c:UInt8,(Gq 7 c).length=7:=fun c=>Ln
  have sz:out.length+(joinedL A).length+(joinedL B).length+27<=sizeLine:=sz;refine ⟨_,U,m,C,dx,_,_,U,h1,T.cl,T.nC,ma _ _ _,U,_,U,?_⟩;have step:∀ (H1:Hp) (fc':Nat),Bt m q H H1->H1 m=some (.ins C dx (mf q n fc'))->H1 q=some (.lst (out.map vb))->fc'=(if n=0 then out.length else fc)->mr C (upd H1 m (.ins C dx (mf q ((n:Int)+1) fc'))) m q (out,n+1,if n=0 then out.length else fc)/\Bt m q H (upd H1 m (.ins C dx (mf q ((n:Int)+1) fc'))):=fun H1 fc' b1 e1 e2 e3=>by
   refine ⟨⟨dx,?_,?_⟩,b1.updm⟩
   ·rw [eC,e3]
    rfl
   ·rw [eK (HA hM.ne)]
    exact e2
  refine gh (fun g=>?_) (fun g=>?_)
  ·have g:n=0:=by
    have g:=Gd g;injection g with g
    exact Int.ofNat_eq_zero.mp g
   refine ⟨_,rfl,m,C,dx,_,_,rfl,h1,T.cl,T.nR,mM _ _ _,q,_,rfl,.inl (SqL.of h2),_,rfl,m,C,dx,_,rfl,h1,T.cl,T.nF,(by show 3<1000;decide),?_⟩;rw [Ge];have h1':upd H m (.ins C dx (putF "first_clash" (.int (out.length:Nat)) (mf q n fc))) m=some (.ins C dx (mf q n (out.length:Nat))):=eC;have h2':upd H m (.ins C dx (putF "first_clash" (.int (out.length:Nat)) (mf q n fc))) q=some (.lst (out.map vb)):=by
    rw [eK (HA hM.ne)];exact h2
   have b1:Bt m q H (upd H m (.ins C dx (putF "first_clash" (.int (out.length:Nat)) (mf q n fc)))):=Bt.refl.updm;refine ⟨_,rfl,m,C,dx,_,_,rfl,h1',T.cl,T.nC,ma _ _ _,_,_,rfl,rfl,dx,_,h1',(by show 3<1000;decide),?_⟩;obtain ⟨hM1,b1'⟩:=step _ _ b1 h1' h2' (by rw [Ga g]);obtain ⟨d1,i1,j1⟩:=id hM1;have hA1:=hA.bt hM na b1';refine ⟨_,rfl,m,d1,_,rfl,i1,mno _ _ (by decide +kernel) (by decide +kernel) (by decide +kernel),m,q,_,60,rfl,hM1,(by show out.length+9<=_;omega),fun H2 b2 hM2=>?_⟩
   have l2:=js out (Gq 7 60);rw [s7] at l2;obtain ⟨d2,i2,j2⟩:=id hM2;have b02:=b1'.trans b2;refine ⟨_,rfl,m,d2,_,rfl,i2,mno _ _ (by decide +kernel) (by decide +kernel) (by decide +kernel),_,rfl,m,q,p,_,A,rfl,hM2,hA.bt hM na b02,(by show (marked out (Gq 7 60)).length+_<=_;omega),fun H3 b3 hM3=>?_⟩
   obtain ⟨d3,i3,j3⟩:=id hM3;have l3:(marked out (Gq 7 60)++joinedL A).length<=out.length+9+(joinedL A).length:=by rw [Gi];omega
   refine ⟨_,rfl,m,d3,_,rfl,i3,mno _ _ (by decide +kernel) (by decide +kernel) (by decide +kernel),m,q,_,61,rfl,hM3,(by show (marked out (Gq 7 60)++joinedL A).length+9<=_;omega),fun H4 b4 hM4=>?_⟩
   obtain ⟨d4,i4,j4⟩:=id hM4;have l4:=js (marked out (Gq 7 60)++joinedL A) (Gq 7 61);rw [s7] at l4;have b04:=(b02.trans b3).trans b4;refine ⟨_,rfl,m,d4,_,rfl,i4,mno _ _ (by decide +kernel) (by decide +kernel) (by decide +kernel),_,rfl,m,q,p',_,B,rfl,hM4,hB.bt hM nb b04,(by show (marked (marked out (Gq 7 60)++joinedL A) (Gq 7 61)).length+_<=_;omega),fun H5 b5 hM5=>?_⟩
   obtain ⟨d5,i5,j5⟩:=id hM5;have l5:(marked (marked out (Gq 7 60)++joinedL A) (Gq 7 61)++joinedL B).length<=out.length+18+(joinedL A).length+(joinedL B).length:=by rw [Gi];omega
   refine ⟨_,rfl,m,d5,_,rfl,i5,mno _ _ (by decide +kernel) (by decide +kernel) (by decide +kernel),m,q,_,62,rfl,hM5,(by show (marked (marked out (Gq 7 60)++joinedL A) (Gq 7 61)++joinedL B).length+9<=_;omega),fun H6 b6 hM6=>?_⟩
   refine k H6 ((b04.trans b5).trans b6) ?_;unfold jc;rw [F8,F7,F6];exact hM6
  ·have g:¬ n=0:=fun z=>g (Gb (by rw [z];rfl))
   refine ⟨_,rfl,m,C,dx,_,_,rfl,h1,T.cl,T.nC,ma _ _ _,_,_,rfl,rfl,dx,_,h1,(by show 3<1000;decide),?_⟩;obtain ⟨hM1,b1'⟩:=step _ _ Bt.refl h1 h2 (by rw [F9 g]);obtain ⟨d1,i1,j1⟩:=id hM1;have hA1:=hA.bt hM na b1';refine ⟨_,rfl,m,d1,_,rfl,i1,mno _ _ (by decide +kernel) (by decide +kernel) (by decide +kernel),m,q,_,60,rfl,hM1,(by show out.length+9<=_;omega),fun H2 b2 hM2=>?_⟩
   have l2:=js out (Gq 7 60);rw [s7] at l2;obtain ⟨d2,i2,j2⟩:=id hM2;have b02:=b1'.trans b2;refine ⟨_,rfl,m,d2,_,rfl,i2,mno _ _ (by decide +kernel) (by decide +kernel) (by decide +kernel),_,rfl,m,q,p,_,A,rfl,hM2,hA.bt hM na b02,(by show (marked out (Gq 7 60)).length+_<=_;omega),fun H3 b3 hM3=>?_⟩
   obtain ⟨d3,i3,j3⟩:=id hM3;have l3:(marked out (Gq 7 60)++joinedL A).length<=out.length+9+(joinedL A).length:=by rw [Gi];omega
   refine ⟨_,rfl,m,d3,_,rfl,i3,mno _ _ (by decide +kernel) (by decide +kernel) (by decide +kernel),m,q,_,61,rfl,hM3,(by show (marked out (Gq 7 60)++joinedL A).length+9<=_;omega),fun H4 b4 hM4=>?_⟩
   obtain ⟨d4,i4,j4⟩:=id hM4;have l4:=js (marked out (Gq 7 60)++joinedL A) (Gq 7 61);rw [s7] at l4;have b04:=(b02.trans b3).trans b4;refine ⟨_,rfl,m,d4,_,rfl,i4,mno _ _ (by decide +kernel) (by decide +kernel) (by decide +kernel),_,rfl,m,q,p',_,B,rfl,hM4,hB.bt hM nb b04,(by show (marked (marked out (Gq 7 60)++joinedL A) (Gq 7 61)).length+_<=_;omega),fun H5 b5 hM5=>?_⟩
   obtain ⟨d5,i5,j5⟩:=id hM5;have l5:(marked (marked out (Gq 7 60)++joinedL A) (Gq 7 61)++joinedL B).length<=out.length+18+(joinedL A).length+(joinedL B).length:=by rw [Gi];omega
   refine ⟨_,rfl,m,d5,_,rfl,i5,mno _ _ (by decide +kernel) (by decide +kernel) (by decide +kernel),m,q,_,62,rfl,hM5,(by show (marked (marked out (Gq 7 60)++joinedL A) (Gq 7 61)++joinedL B).length+9<=_;omega),fun H6 b6 hM6=>?_⟩
   refine k H6 ((b04.trans b5).trans b6) ?_;unfold jc;rw [F8,F7,F6];exact hM6
def fTrip (x:Nat×Nat×Nat):List V:=[.int x.1,.int x.2.1,.int x.2.2]
abbrev AC (H:Hp) (p:Gf) (ps:List (Nat×Nat×Nat)):Prop:=yV fTrip H p ps
def kPair (p:Nat×Nat):L2.Key×V:=(Hm (p.1:Int),.int (p.2:Nat))
theorem tV:∀ (l:List (Nat×Nat)) (acc:List (L2.Key×V)) (i j:Nat),Up l i j->∀ k:Nat,valV (mergeK acc (l.map kPair)) (Hm (k:Int))=match l.lookup k with
  | some y=>some (.int (y:Nat))
  | none=>valV acc (Hm (k:Int))
 | [],acc,i,j,_,k=>rfl
 | (x,y)::l,acc,i,j,⟨u1,u2,u3⟩,k=>by
  have ih:=tV l (putK acc (Hm (x:Int)) (.int (y:Nat))) _ _ u3 k;have e:mergeK acc (((x,y)::l).map kPair)=mergeK (putK acc (Hm (x:Int)) (.int (y:Nat))) (l.map kPair):=rfl;rw [e,ih,HX,oU];by_cases h:k=x
  ·subst h
   have hn:l.lookup k=none:=by
    cases hl:l.lookup k with
    | none=>rfl
    | some z =>
     have:=u3.ge _ (Lb.sK hl);simp only at this;omega
   rw [hn,beq_self_eq_true];simp
  ·have hb:(k == x)=false:=by simpa using h
   rw [hb];have hk:¬ (Hm (k:Int):L2.Key)=Hm (x:Int):=fun z=>h (by injection z with z;omega)
   rw [F9 hk]
theorem AG (o b:List Gn) (k:Nat):valV (mergeK [] ((pairsOf o b).map kPair)) (Hm (k:Int))=((pairsOf o b).lookup k).map fun y=>V.int (y:Nat):=by
 rw [tV _ [] 0 0 (Lb.Up.app (Lb.jr o b)) k];cases (pairsOf o b).lookup k <;> rfl
theorem ph {K:Gh} {H:Hp}:∀ {as:List Gf} {ps:List (Nat×Nat)},jC fPair H as ps->Jg (fun (p:Gf) (kv:L2.Key×V)=>SqT K H p [kV kv.1,kv.2]) as (ps.map kPair)
 | [],[],_ => .nil
 | [],_::_,h=>by have:=h.len;simp at this
 | _::_,[],h=>by have:=h.len;simp at this
 | a::as,p::ps,h => .cons (SqT.of (h.at_ 0 a p rfl rfl)) (ph ⟨by have:=h.len;simpa using this,fun i b m e1 e2=>h.at_ (i+1) b m (by simpa using e1) (by simpa using e2)⟩)
def zn (K:Gh):Sp:=fun vs H Q _=>∃ (po pa pb:Gf) (o a b:List Gn),vs=[.ref po,.ref pa,.ref pb]/\eS H po o/\eS H pa a/\eS H pb b/\o.length<=1000000/\a.length<=1000000/\b.length<=1000000/\∀ (H':Hp) (r:Gf),eT H H'->H r=none->AC H' r (stillOf o a b)->Q (.ref r) H'
def zt (K:Gh) (C:Gf):Sp:=fun vs H Q _=>∃ (po pa pb:Gf) (o a b:List Gn),vs=[.ref po,.ref pa,.ref pb]/\eS H po o/\eS H pa a/\eS H pb b/\o.length<=100000/\a.length<=100000/\b.length<=100000 /\
 (joinedL o).length<=1000000/\(joinedL a).length<=1000000/\(joinedL b).length<=1000000/\∀ (H':Hp) (m q:Gf),eT H H'->H m=none->H q=none->mr C H' m q (pmerge o a b (stillOf o a b++[(o.length,a.length,b.length)]) 0 0 0 ([],0,0))->(pmerge o a b (stillOf o a b++[(o.length,a.length,b.length)]) 0 0 0 ([],0,0)).1.length<=6000000->Q (.ref m) H'
theorem AR:eM ["self","base","ours","theirs"] ["self","base","ours","theirs"] (defScope iB):=mkSc
theorem Bc {f C:Gf} {fd:GG} (F:Fun K "add_place" "Merged.add_place" iB f fd) (T:TxM K mg C) (GL:Md P w K mg base 12 C "add_lines" ["self","lines"] (spAddLines K C)) (GC:Md P w K mg base 13 C "add_clash" ["self","ours","theirs"] (si K C)):ff P w K mg base (CXF P w) 14 f fd ["self","base","ours","theirs"] (sg K C):=by
 refine okN (k:=13) F AR fun cdv A outer s H vs Q E hr h=>?_
 ·obtain ⟨m,q,po,p,p',s,O,A,B,rfl,hM,hO,hA,hB,na,nb,sz,k⟩:=h
  obtain ⟨dx,h1,h2⟩:=id hM;have hr12:fi 12 _:=hr.mono (by decide);refine ⟨_,eI (fF (eX (sG hr.units) (pv 2) (pv 1) (fb _)) (eI (fe (f6 (pv 0) T.cl GL hr12 eG (eA (pv 3) eF))))
   (eI (fF (PW.pt (wX (eX (sG hr.units) (pv 3) (pv 1) (fb _)) (sD (eX (sG hr.units) (pv 2) (pv 3) (fb _))))) (eI (fe (f6 (pv 0) T.cl GL hr12 eG (eA (pv 2) eF))))
    (eI (fe (f6 (pv 0) T.cl GC hr eG (eA (pv 2) (eA (pv 3) eF)))))))),?_⟩
  have mno:∀ {x:G9} (a b:Int),¬ x = "first_clash" -> ¬ x = "clashes" -> ¬ x = "row" -> (mf q a b).lookup x=none:=fun a b c1 c2 c3=>DG _ _ _ c1 c2 c3
  refine ⟨_,U,_,U,kC A,kC O,lE hA,lE hO,ie _,ie _,_,U,?_⟩;rw [qD];unfold addPlace at k;refine gh (fun g=>?_) (fun g=>?_)
  ·have g:A=O:=Gd g
   rw [Ga g] at k;exact ⟨_,U,m,dx,_,U,h1,mno _ _ (by decide +kernel) (by decide +kernel) (by decide +kernel),_,U,m,q,p',s,B,U,hM,hB,by omega,k⟩
  have g:¬ A=O:=fun z=>g (Gb z)
  rw [F9 g] at k;have out:(B=O∨A=B)->spAddLines K C [.ref m,.ref p] H (fun v H'=>Q .non H') E0:=fun c=>by
   rw [Ga c] at k;exact ⟨m,q,p,s,A,U,hM,hA,by omega,k⟩
  refine ⟨_,U,_,U,kC B,kC O,lE hB,lE hO,ie _,ie _,_,U,?_⟩;rw [qD];refine gh (fun g2=>?_) (fun g2=>?_)
  ·have g2:B=O:=Gd g2
   exact (Ga U).mpr ⟨_,U,m,dx,_,U,h1,mno _ _ (by decide +kernel) (by decide +kernel) (by decide +kernel),_,U,out (.inl g2)⟩
  have g2:¬ B=O:=fun z=>g2 (Gb z)
  refine ⟨_,U,_,U,kC A,kC B,lE hA,lE hB,ie _,ie _,_,U,?_⟩;rw [qD];refine gh (fun g3=>?_) (fun g3=>?_)
  ·have g3:A=B:=Gd g3
   exact ⟨_,U,m,dx,_,U,h1,mno _ _ (by decide +kernel) (by decide +kernel) (by decide +kernel),_,U,out (.inr g3)⟩
  have g3:¬ A=B:=fun z=>g3 (Gb z)
  rw [F9 (fun z=>z.elim g2 g3)] at k
  exact ⟨_,U,m,dx,_,U,h1,mno _ _ (by decide +kernel) (by decide +kernel) (by decide +kernel),_,U,_,U,m,q,p,p',s,A,B,U,hM,hA,hB,na,nb,sz,k⟩
theorem wG:eM ["base","ours","theirs","in_theirs","o","a"] ["base","ours","theirs"] (defScope ju):=mkSc
theorem C7 {f C:Gf} {fd:GG} (F:Fun K "still_lines" "still_lines" ju f fd) (T:TxM K mg C) (G:Fn P w K mg base 13 "kept_pairs" ["old","new"] (qW K)):ff P w K mg base (CXF P w) 14 f fd ["base","ours","theirs"] (zn K):=by
 refine okN (k:=13) F wG fun cdv A outer s H vs Q E hr h=>?_
 ·obtain ⟨po,pa,pb,o,a,b,rfl,hO,hA,hB,zo,za,zb,k⟩:=h
  have nd:=wG.nd;have hu:=hr.units;refine ⟨_,eE (eO (i:=3) nd U (Or.inr U) (ly (yT U) U T.dict PyProof.Rows.boot_dict (eA (eV G hr U eG (eA (pv 0) (eA (pv 2) eF))) eF)))
   (eI (eP (qL (own:=[("o",4),("a",5)]) U nd (gr (eV G hr U eG (eA (pv 0) (eA (pv 1) eF)))) (iq (N:=["base","ours","theirs","in_theirs","o","a"]) (sc:=defScope ju) (by decide +kernel))
    (fun _ _ _ _ _=>vF (K:=K) (n:=2) U U (fw (eZ (i:=4) nd U (Gy U)) (fw (eZ (i:=5) nd U (Gy U)) iX)))
    (fun _ _ _ _ _=>vB (gP (yo (KR (KJ (by decide) _) hu) (pv 4) (pv 3))))
    (fun _ _ _ _ _=>iE (eA (pv 4) (eA (pv 5) (eA (Ab (KR (KJ (by decide) _) hu) (pv 3) (pv 4) (fun _ _=>U)) eF))))))),?_⟩
  refine ⟨_,U,_,U,po,pb,o,b,U,hO,hB,zo,zb,fun H1 g s1 ng ⟨ts,hg,ob⟩=>?_⟩
  refine ⟨g,ts,(pairsOf o b).map kPair,U,SqL.of hg,ph ob,fun d nd'=>?_⟩
  have s2:=s1.new (o := .dK (mergeK [] ((pairsOf o b).map kPair))) nd';have hd:upd H1 d (.dK (mergeK [] ((pairsOf o b).map kPair))) d=some (.dK (mergeK [] ((pairsOf o b).map kPair))):=eC;generalize upd H1 d (.dK (mergeK [] ((pairsOf o b).map kPair)))=H2 at s2 hd ⊢;refine ⟨_,U,_,U,po,pa,o,a,U,hO.same s2,hA.same s2,zo,za,fun H3 l s3 nl ⟨us,hl,oa⟩=>?_⟩
  refine ⟨l,U,⟨_,SqL.of hl⟩,fun D nD=>?_⟩
  have s03:=s2.trans s3;have nD0:H D=none:=s03.free nD;have hd3:=s3 _ _ hd;refine nM (K:=K) (a:=l) (xs:=us.map V.ref) (fun i H'=>eT H H'/\eT H3 H'/\AC H' D (((pairsOf o a).take i).filterMap fun p=>((pairsOf o b).lookup p.1).map fun y=>(p.1,p.2,y))) ⟨s03.new nD,L2.upN nD,[],eC,jC.nil⟩ (fun i H' _ ⟨_,s4,_⟩=>SqL.of (s4 _ _ hl)) ?_ ?_
  ·rintro i x H4 hx ⟨s4,s34,rs,hD,or_⟩
   obtain ⟨t,ht,rfl⟩:=fz hx;obtain ⟨⟨c1,c2⟩,hc,eh⟩:=oa.ofGet ht;have il:=(Gj.mp hc).1;have tk:((pairsOf o a).take (i+1)).filterMap (fun p=>((pairsOf o b).lookup p.1).map fun y=>(p.1,p.2,y))=((pairsOf o a).take i).filterMap (fun p=>((pairsOf o b).lookup p.1).map fun y=>(p.1,p.2,y))++(((pairsOf o b).lookup c1).map fun y=>(c1,c2,y)).toList:=by
    rw [HP,hc,List.filterMap_append];congr 1
   have dg:lh H4 d (.int (c1:Nat)) (((pairsOf o b).lookup c1).map fun y=>V.int (y:Nat)):=by
    rw [← AG];exact lh.k (k:=Hm (c1:Int)) (s34 _ _ hd3)
   refine ⟨t,_,U,SqT.of (s34 _ _ eh),U,_,_,U,_,_,U,U,U,?_⟩;refine ⟨_,U,_,U,d,_,U,dg,_,U,?_⟩;have rl:rs.length<=i:=by
    rw [or_.len];refine Ie (JZ _ _) ?_;rw [HF];omega
   cases hk:(pairsOf o b).lookup c1 with
   | none =>
    rw [hk] at tk;refine (F9 (by decide)).mpr ⟨s4,s34,rs,hD,?_⟩;rw [tk];simpa using or_
   | some y =>
    rw [hk] at tk dg;refine (Ga rfl).mpr ⟨_,rfl,_,rfl,_,rfl,_,rfl,d,_,rfl,dg,(by show 3<=sizeLine;decide),fun u nu=>?_⟩
    have hD':=L2.upN (o := .tup [.int (c1:Nat),.int (c2:Nat),.int (y:Nat)]) nu _ _ hD;refine ⟨_,hD',?_,(s4.new nu).own nD0,?_,rs++[u],?_,?_⟩
    ·rw [Ge,Hj]
     have:=Lb.iL (Lb.wayP o a) 0 0;rw [Lb.i8] at this;unfold Lb.pairsOf at il;omega
    ·exact (s34.new nu).own nD
    ·rw [eC,Gr]
     rfl
    ·rw [tk]
     exact ((or_.same (L2.upN nu).tups).snoc (x:=(c1,c2,y)) eC).same (L2.mn hD')
  ·rintro H4 ⟨s4,s34,rs,hD,or_⟩
   rw [Ge,oa.len,Ib] at or_;exact k H4 D s4 nD0 ⟨rs,hD,or_⟩
def Asc:List (Nat×Nat×Nat)->Nat->Nat->Nat->Prop
 | [],_,_,_=>True
 | (x,y,z)::l,i,j,k=>i<=x/\j<=y/\k<=z/\Asc l (x+1) (y+1) (z+1)
theorem tY {o a b:List Gn}:∀ (l:List (Nat×Nat×Nat)) (i j k:Nat),tG o a b l i j k->i<=o.length->j<=a.length->k<=b.length->Asc (l++[(o.length,a.length,b.length)]) i j k
 | [],i,j,k,_,h1,h2,h3=>⟨h1,h2,h3,trivial⟩
 | (x,y,z)::l,i,j,k,⟨s1,s2,s3,s4,s5,s6,_,_,s9⟩,_,_,_=>⟨s1,s3,s5,tY l _ _ _ s9 (by omega) (by omega) (by omega)⟩
theorem nW {ls:List Gn} {i x:Nat} (h:i<=x):(joinedL (ls.drop i)).length=(joinedL (someOf ls i (x-i))).length+(joinedL (ls.drop x)).length:=by
 rw [← Gi,← Lb.f7];unfold someOf;conv=>lhs;rw [← JE (x-i) (ls.drop i)]
 rw [IG,show i+(x-i)=x by omega]
theorem sO {ls:List Gn} {x:Nat}:(joinedL (ls.drop x)).length=(joinedL (someOf ls x 1)).length+(joinedL (ls.drop (x+1))).length:=by
 have:=nW (ls:=ls) (i:=x) (x:=x+1) (by omega);rwa [show x+1-x=1 by omega] at this
theorem CQ (O A B:List Gn) (s:MSt):(addPlace O A B s).1.length<=s.1.length+(joinedL A).length+(joinedL B).length+27:=by
 unfold addPlace;split
 ·show (s.1++joinedL B).length<=_
  rw [Gi];omega
 split
 ·show (s.1++joinedL A).length<=_
  rw [Gi];omega
 ·show (jc s.1 A B).length<=_
  unfold jc;have e60:(Hw "<<<<<<<").length=7:=by decide
  have e61:(Hw "=======").length=7:=by decide
  have e62:(Hw ">>>>>>>").length=7:=by decide
  have l1:=js s.1 (Hw "<<<<<<<");have l2:=js (marked s.1 (Hw "<<<<<<<")++joinedL A) (Hw "=======");have l3:=js (marked (marked s.1 (Hw "<<<<<<<")++joinedL A) (Hw "=======")++joinedL B) (Hw ">>>>>>>");rw [Gi] at l2 l3;omega
theorem wL:eM ["base","ours","theirs","merged","from_o","from_a","from_b","ends","o","a","b"] ["base","ours","theirs"] (defScope kN):=mkSc
theorem Dh {f C:Gf} {fd:GG} (F:Fun K "merge_three" "merge_three" kN f fd) (T:TxM K mg C) (GC:Cl P w K mg base 1 C "Merged" ["self"] (zw C)) (GS:Fn P w K mg base 14 "still_lines" ["base","ours","theirs"] (zn K)) (GP:Md P w K mg base 14 C "add_place" ["self","base","ours","theirs"] (sg K C)) (GL:Md P w K mg base 12 C "add_lines" ["self","lines"] (spAddLines K C)):ff P w K mg base (CXF P w) 15 f fd ["base","ours","theirs"] (zt K C):=by
 refine okN (k:=14) F wL fun cdv A outer s H vs Q E hr h=>?_
 ·obtain ⟨po,pa,pb,o,a,b,rfl,hO,hA,hB,zo,za,zb,jo,ja,jb,k⟩:=h
  have nd:=wL.nd;have hr2:fi 2 _:=hr.mono (by decide);have hr12:fi 12 _:=hr.mono (by decide);refine ⟨_,eE (eO (i:=3) nd U (Gy U) (vH GC hr2 U eG))
   (eE (eO (i:=4) nd U (Gy U) eN)
   (eE (eO (i:=5) nd U (Gy U) eN)
   (eE (eO (i:=6) nd U (Gy U) eN)
   (eE (eO (i:=7) nd U (Gy U) (iE (eA (eU eL U T.len Gz (eA (pv 0) eF)) (eA (eU eL U T.len Gz (eA (pv 1) eF)) (eA (eU eL U T.len Gz (eA (pv 2) eF)) eF)))))
   (eE (gQ Hz U (gr (fA l9 (eV GS hr U eG (eA (pv 0) (eA (pv 1) (eA (pv 2) eF)))) (fP (eA (pv 7) eF))))
    (lY U (fw (eZ (i:=8) nd U (Gy U)) (fw (eZ (i:=9) nd U (Gy U)) (fw (eZ (i:=10) nd U (Gy U)) iX))))
    (eE (fe (f6 (pv 3) T.cl GP hr eG (eA (fZ gy (pv 0) (fH (pv 4)) (fH (pv 8))) (eA (fZ gy (pv 1) (fH (pv 5)) (fH (pv 9))) (eA (fZ gy (pv 2) (fH (pv 6)) (fH (pv 10))) eF)))))
    (eE (fe (f6 (pv 3) T.cl GL hr12 eG (eA (fZ gy (pv 0) (fH (pv 8)) (fH (fA gx (pv 8) eN))) eF)))
    (eE (eO (i:=4) nd U (Gy U) (fA gx (pv 8) eN))
    (eE (eO (i:=5) nd U (Gy U) (fA gx (pv 9) eN))
    (eI (eO (i:=6) nd U (Gy U) (fA gx (pv 10) eN))))))))
   (eI (eP (pv 3)))))))),?_⟩
  refine fun m dm nm ndm ne=>⟨m,dm,U,eC,fun H1 q nq hM1 b1=>⟨U,?_⟩⟩
  have s1:eT H H1:=gX nm ndm b1;have nq0:H q=none:=by
   by_cases h:q=m
   ·rw [h];exact nm
   ·by_cases h2:q=dm
    ·rw [h2];exact ndm
    ·rwa [eK h,eK h2] at nq
  obtain ⟨ao,po1,lo⟩:=id (hO.same s1);obtain ⟨aa,pa1,la⟩:=id (hA.same s1);obtain ⟨ab,pb1,lb⟩:=id (hB.same s1);refine ⟨_,rfl,po,_,rfl,.inl (SqL.of po1),_,rfl,pa,_,rfl,.inl (SqL.of pa1),_,rfl,pb,_,rfl,.inl (SqL.of pb1),(by show 3<=sizeLine;decide),fun e ne'=>?_⟩
  have he:upd H1 e (.tup [.int ((ao.map V.ref).length:Nat),.int ((aa.map V.ref).length:Nat),.int ((ab.map V.ref).length:Nat)]) e=some (.tup (fTrip (o.length,a.length,b.length))):=by
   rw [eC,Ge,Ge,Ge,lo.len,la.len,lb.len];rfl
  have s12:=L2.upN (o := .tup [.int ((ao.map V.ref).length:Nat),.int ((aa.map V.ref).length:Nat),.int ((ab.map V.ref).length:Nat)]) ne';have hM2:=hM1.same s12;have s2:=s1.trans s12;generalize upd H1 e (.tup [.int ((ao.map V.ref).length:Nat),.int ((aa.map V.ref).length:Nat),.int ((ab.map V.ref).length:Nat)])=H2 at he s12 hM2 s2 ⊢;refine ⟨_,U,_,U,_,U,po,pa,pb,o,a,b,U,hO.same s2,hA.same s2,hB.same s2,by omega,by omega,by omega,fun H3 g s3 ng ⟨ts,hg,ob⟩=>?_⟩
  have sl:(stillOf o a b).length<=100000:=by
   have h1:(stillOf o a b).length<=(pairsOf o a).length:=JZ _ _;have h2:=Lb.iL (Lb.wayP o a) 0 0;rw [Lb.i8] at h2;unfold Lb.pairsOf at h1;omega
  refine ⟨_,rfl,(by show 1<=sizeLine;decide),fun c nc=>?_⟩
  refine ⟨g,c,_,_,U,U,L2.upN nc _ _ hg,eC,?_,fun d nd'=>?_⟩
  ·rw [Ge,ob.len,Hj]
   show _+1<=_;omega
  have sn:=(L2.upN (o := .lst [.ref e]) nc).trans (L2.upN (o := .lst (ts.map V.ref++[.ref e])) nd');have s4:=(s2.trans s3).trans sn;have hM4:=(hM2.same s3).same sn;have hd:upd (upd H3 c (.lst [.ref e])) d (.lst (ts.map V.ref++[.ref e])) d=some (.lst ((ts++[e]).map V.ref)):=by
   rw [eC,Gr];rfl
  have ob4:jC fTrip (upd (upd H3 c (.lst [.ref e])) d (.lst (ts.map V.ref++[.ref e]))) (ts++[e]) (stillOf o a b++[(o.length,a.length,b.length)]):=(ob.snoc (s3 _ _ he)).same sn.tups;have dq:d≠q:=fun z=>by
   obtain ⟨_,_,h⟩:=(hM2.same s3).same (L2.upN (o := .lst [.ref e]) nc);rw [z,h] at nd';cases nd'
  have dm':d≠m:=fun z=>by
   obtain ⟨_,h,_⟩:=(hM2.same s3).same (L2.upN (o := .lst [.ref e]) nc);rw [z,h] at nd';cases nd'
  generalize upd (upd H3 c (.lst [.ref e])) d (.lst (ts.map V.ref++[.ref e]))=H4 at sn s4 hM4 hd ob4 ⊢;have asc0:Asc (stillOf o a b++[(o.length,a.length,b.length)]) 0 0 0:=tY _ _ _ _ (Lb.rS o a b) (G5 _) (G5 _) (G5 _);have PSl:(stillOf o a b++[(o.length,a.length,b.length)]).length<=100001:=by
   rw [Gi];show _+1<=_;omega
  generalize hP:stillOf o a b++[(o.length,a.length,b.length)]=PS at ob4 asc0 PSl k;refine ⟨d,U,⟨_,SqL.of hd⟩,gW (K:=K) (a:=d) (xs:=(ts++[e]).map V.ref) (fun t σ H'=>∃ (i j l:Nat) (s:MSt) (v8 v9 v10:Option V),σ=[some (.ref po),some (.ref pa),some (.ref pb),some (.ref m),some (.int i),some (.int j),some (.int l),some (.ref e),v8,v9,v10]/\Bt m q H4 H'/\mr C H' m q s /\
   pmerge o a b (PS.drop t) i j l s=pmerge o a b PS 0 0 0 ([],0,0)/\Asc (PS.drop t) i j l/\s.1.length+(joinedL (o.drop i)).length+(joinedL (a.drop j)).length+(joinedL (b.drop l)).length+27*(PS.length-t)<=3000000+27*PS.length) ?_ ?_ ?_ ?_⟩
  ·refine ⟨0,0,0,([],0,0),none,none,none,U,Bt.refl,hM4,U,asc0,?_⟩
   rw [Ip,Ip,Ip];show 0+_+_+_+_<=_;omega
  ·rintro t σ H' _ ⟨i,j,l,s,v8,v9,v10,rfl,b5,_⟩
   exact SqL.of (b5 _ _ hd dm' dq)
  ·rintro t x σ H5 hx ⟨i,j,l,s,v8,v9,v10,rfl,b5,hM5,e1,asc,bd⟩
   obtain ⟨y,hy,rfl⟩:=fz hx;obtain ⟨⟨c1,c2,c3⟩,hc,hh⟩:=ob4.ofGet hy;have ht:=(Gj.mp hc).1;have dr:PS.drop t=(c1,c2,c3)::PS.drop (t+1):=by
    rw [GX ht,(Gj.mp hc).2]
   rw [dr] at e1 asc;obtain ⟨u1,u2,u3,asc'⟩:=asc;have s5:eT H H5:=s4.btOf b5 nm nq0;obtain ⟨ao,po5,lo⟩:=id (hO.same s5);obtain ⟨aa,pa5,la⟩:=id (hA.same s5);obtain ⟨ab,pb5,lb⟩:=id (hB.same s5);obtain ⟨dx5,i5,j5⟩:=id hM5;obtain ⟨dx4,i4,j4⟩:=id hM4;have mno:∀ {x:G9} (a b:Int),¬ x = "first_clash" -> ¬ x = "clashes" -> ¬ x = "row" -> (mf q a b).lookup x=none:=fun a b c1 c2 c3=>DG _ _ _ c1 c2 c3
   have hy5:H5 y=some (.tup (fTrip (c1,c2,c3))):=b5 _ _ hh (fG hh i4 (by intro z;cases z)) (fG hh j4 (by intro z;cases z));refine ⟨y,_,U,SqT.of hy5,U,_,_,U,_,_,U,_,_,U,U,?_⟩;refine ⟨_,U,m,dx5,_,U,i5,mno _ _ (by decide +kernel) (by decide +kernel) (by decide +kernel),?_⟩;refine ⟨_,U,_,U,_,U,_,U,_,U,po,_,U,SqL.of po5,fun x1 n1=>?_⟩
   rw [i7 (xs:=ao.map V.ref) (z:=(i:Int)) (y:=(c1:Int)) rfl rfl,← Il,← IT];have t1:=L2.upN (o := .lst (((ao.drop i).take (c1-i)).map V.ref)) n1;have y1:upd H5 x1 (.lst (((ao.drop i).take (c1-i)).map V.ref)) x1=some (.lst (((ao.drop i).take (c1-i)).map V.ref)):=eC;generalize upd H5 x1 (.lst (((ao.drop i).take (c1-i)).map V.ref))=H6 at t1 y1 ⊢;refine ⟨_,U,_,U,_,U,_,U,_,U,pa,_,U,SqL.of (t1 _ _ pa5),fun x2 n2=>?_⟩
   rw [i7 (xs:=aa.map V.ref) (z:=(j:Int)) (y:=(c2:Int)) rfl rfl,← Il,← IT];have t2:=L2.upN (o := .lst (((aa.drop j).take (c2-j)).map V.ref)) n2;have y2:upd H6 x2 (.lst (((aa.drop j).take (c2-j)).map V.ref)) x2=some (.lst (((aa.drop j).take (c2-j)).map V.ref)):=eC;generalize upd H6 x2 (.lst (((aa.drop j).take (c2-j)).map V.ref))=H7 at t2 y2 ⊢;refine ⟨_,U,_,U,_,U,_,U,_,U,pb,_,U,SqL.of (t2 _ _ (t1 _ _ pb5)),fun x3 n3=>?_⟩
   rw [i7 (xs:=ab.map V.ref) (z:=(l:Int)) (y:=(c3:Int)) rfl rfl,← Il,← IT];have t3:=L2.upN (o := .lst (((ab.drop l).take (c3-l)).map V.ref)) n3;have y3:upd H7 x3 (.lst (((ab.drop l).take (c3-l)).map V.ref)) x3=some (.lst (((ab.drop l).take (c3-l)).map V.ref)):=eC;generalize upd H7 x3 (.lst (((ab.drop l).take (c3-l)).map V.ref))=H8 at t3 y3 ⊢;have s58:=(t1.trans t2).trans t3;have lO:eS H8 x1 (someOf o i (c1-i)):=⟨_,t3 _ _ (t2 _ _ y1),((lo.drop i).take (c1-i)).same s58.tups⟩;have lA:eS H8 x2 (someOf a j (c2-j)):=⟨_,t3 _ _ y2,((la.drop j).take (c2-j)).same s58.tups⟩;have lB:eS H8 x3 (someOf b l (c3-l)):=⟨_,y3,((lb.drop l).take (c3-l)).same s58.tups⟩;have q2:x2≠q:=fun z=>by rw [z,t1 _ _ j5] at n2;cases n2
   have q3:x3≠q:=fun z=>by rw [z,t2 _ _ (t1 _ _ j5)] at n3;cases n3
   have d1:=nW (ls:=o) u1;have d2:=nW (ls:=a) u2;have d3:=nW (ls:=b) u3;have w1:=sO (ls:=o) (x:=c1);have w2:=sO (ls:=a) (x:=c2);have w3:=sO (ls:=b) (x:=c3);have pl:=CQ (someOf o i (c1-i)) (someOf a j (c2-j)) (someOf b l (c3-l)) s;have szl:sizeLine=16777216:=Hj;refine ⟨m,q,x1,x2,x3,s,_,_,_,U,hM5.same s58,lO,lA,lB,q2,q3,by omega,fun H9 b9 hM9=>?_⟩
   have b59:=(b5.trans s58.bt).trans b9;have s9:eT H H9:=s4.btOf b59 nm nq0;obtain ⟨ao',po9,lo'⟩:=id (hO.same s9);obtain ⟨dx9,i9,j9⟩:=id hM9;refine ⟨_,U,m,dx9,_,U,i9,mno _ _ (by decide +kernel) (by decide +kernel) (by decide +kernel),?_⟩;refine ⟨_,U,_,U,_,U,_,U,_,_,U,U,_,U,po,_,U,SqL.of po9,fun x4 n4=>?_⟩
   have cz:cutV (ao'.map V.ref) (some (c1:Int)) (some ((c1:Int)+1))=((ao'.drop c1).take 1).map V.ref:=by
    rw [i7 (xs:=ao'.map V.ref) (s:=c1) (e:=c1+1) (z:=(c1:Int)) (y:=(c1:Int)+1) rfl rfl,show c1+1-c1=1 by omega,IT,Il]
   have t4:=L2.upN (o := .lst (cutV (ao'.map V.ref) (some (c1:Int)) (some ((c1:Int)+1)))) n4;refine ⟨m,q,x4,_,someOf o c1 1,U,hM9.same t4,⟨(ao'.drop c1).take 1,by rw [← cz];exact eC,((lo'.drop c1).take 1).same t4.tups⟩,by omega,fun H10 b10 hM10=>?_⟩
   refine ⟨_,U,_,_,U,U,_,U,_,_,U,U,_,U,_,_,U,U,?_⟩;refine ⟨c1+1,c2+1,c3+1,_,_,_,_,U,(b59.trans t4.bt).trans b10,hM10,e1,asc',?_⟩;show ((addPlace (someOf o i (c1-i)) (someOf a j (c2-j)) (someOf b l (c3-l)) s).1++joinedL (someOf o c1 1)).length+_+_+_+_<=_;rw [Gi];omega
  ·rintro σ H5 ⟨i,j,l,s,v8,v9,v10,rfl,b5,hM5,e1,asc,bd⟩
   have tl:((ts++[e]).map V.ref).length=PS.length:=by rw [Ge,ob4.len]
   rw [tl,Ik] at e1;have e1:s=pmerge o a b PS 0 0 0 ([],0,0):=e1;rw [← e1] at k;exact ⟨_,U,k H5 m q (s4.btOf b5 nm nq0) nm nq0 hM5 (by omega)⟩
def optV:Option Nat->V
 | none => .non
 | some n => .int (n:Nat)
structure TxH (K:Gh) (mg:G9->Option Gg):Prop where
 len:mg "len"=none
 hhead:BI K mg "HISTORY_HEAD" ((Hw "SWVH").map vb)
 versions:fW mg "MOST_VERSIONS" 64
 list:mg "list"=none
 noParent:fW mg "NO_PARENT" 4294967295
 wrongKept:fW mg "WRONG_KEPT" 5
 tooMuch:fW mg "TOO_MUCH_KEPT" 6
def rX (K:Gh) (C CF:Gf):Sp:=fun vs H Q E=>∃ (r s:Gf) (b:Gn) (n c:Nat),vs=[.ref r,.int (c:Nat)]/\gT C H r s n/\SqL K H s (b.map vb)/\s≠r/\n<=b.length/\b.length<=sizeLine /\
 (b.length<n+4->fY CF E 1 b.length r H)/\(n+4<=b.length->(ofLe (HU b n 4)≠0xFFFFFFFF/\c<=ofLe (HU b n 4)->fY CF E 3 n r H) /\
  (¬ (ofLe (HU b n 4)≠0xFFFFFFFF/\c<=ofLe (HU b n 4))->∀ H':Hp,But r H H'->gT C H' r s (n+4)->Q (optV (parentOf (ofLe (HU b n 4)))) H'))
def uc (K:Gh) (C CF:Gf):Sp:=fun vs H Q E=>∃ (r s:Gf) (b:Gn) (n c x:Nat),vs=[.ref r,.int (c:Nat),optV (parentOf x)]/\gT C H r s n/\SqL K H s (b.map vb)/\s≠r/\n<=b.length/\b.length<=sizeLine /\
 (b.length<n+4->fY CF E 1 b.length r H)/\(n+4<=b.length->(ofLe (HU b n 4)≠0xFFFFFFFF/\(c<=ofLe (HU b n 4)∨x=0xFFFFFFFF∨x=ofLe (HU b n 4))->fY CF E 3 n r H) /\
  (¬ (ofLe (HU b n 4)≠0xFFFFFFFF/\(c<=ofLe (HU b n 4)∨x=0xFFFFFFFF∨x=ofLe (HU b n 4)))->∀ H':Hp,But r H H'->gT C H' r s (n+4)->Q (optV (parentOf (ofLe (HU b n 4)))) H'))
theorem uo:eM ["reader","count","place","number"] ["reader","count"] (defScope kL):=mkSc
theorem A6 {f C CF:Gf} {fd:GG} (F:Fun K "read_parent" "read_parent" kL f fd) (TH:TxH K mg) (T:TxR K mg C) (FO:gU P w K mg base CF) (G4:Md P w K mg base 12 C "read_four" ["self"] (m7 K C CF)):ff P w K mg base (CXF P w) 13 f fd ["reader","count"] (rX K C CF):=by
 refine okX (k:=12) F uo fun cdv A outer s H vs Q E hr h=>?_
 ·obtain ⟨r,s,b,n,c,rfl,⟨dx,hI⟩,hS,nsr,hn,sz,k1,k2⟩:=h
  have nd:=uo.nd;have hr2:fi 2 _:=hr.mono (by decide);refine ⟨_,eE (eO (i:=2) nd U (Gy U) (eQ (pv 0) U))
   (eE (eO (i:=3) nd U (Gy U) (iF (pv 0) T.cl G4 hr fD))
   (eE (fF (eX io (pv 3) (fO TH.noParent U) (fb _)) (eI (eP mJ)) eY)
   (eE (fF (eX C4 (pv 3) (pv 1) (fb _)) (eI (hZ FO hr2 (hr.hd (by decide)) U jT (eA (fO T.number U) (eA (pv 2) eF)))) eY)
   (eI (eP (pv 3)))))),?_⟩
  have rf4:∀ x:Int,(rf s x).lookup ("read_four":G9)=none:=fun x=>mE _ _ (by decide +kernel) (by decide +kernel)
  refine ⟨_,U,r,C,dx,_,_,U,hI,T.cl,T.nA,kh _ _,?_⟩;refine ⟨_,U,r,dx,_,U,hI,rf4 _,r,s,b,n,U,⟨dx,hI⟩,hS,nsr,hn,sz,k1,fun g H1 s1 hR1=>?_⟩
  obtain ⟨k3,k4⟩:=k2 g;generalize ofLe (HU b n 4)=x at k3 k4 ⊢;refine ⟨_,U,U,_,U,?_⟩;refine gh (fun q=>?_) (fun q=>?_)
  ·have q:x=4294967295:=by
    have q:=Gd q;injection q with q
    omega
   have:=k4 (fun z=>z.1 q) H1 s1 hR1
   rw [q] at this;exact this
  have q:¬ x=4294967295:=fun z=>q (Gb (by rw [z];rfl))
  refine ⟨_,U,_,U,_,_,U,U,_,U,?_⟩;refine gh (fun q2=>?_) (fun q2=>?_)
  ·have q2:(c:Int)<=(x:Nat):=Gd q2
   exact ⟨_,U,iW ((k3 ⟨q,by omega⟩).of s1).to⟩
  have q2:¬ (c:Int)<=(x:Nat):=fun z=>q2 (Gb z)
  have:=k4 (fun z=>q2 (by have:=z.2;omega)) H1 s1 hR1
  unfold parentOf at this;rw [F9 q] at this;exact ⟨_,U,this⟩
theorem sm:eM ["reader","count","first_parent","place","number"] ["reader","count","first_parent"] (defScope hW):=mkSc
theorem yu {f C CF:Gf} {fd:GG} (F:Fun K "read_second_parent" "read_second_parent" hW f fd) (T:TxR K mg C) (FO:gU P w K mg base CF) (G:Fn P w K mg base 13 "read_parent" ["reader","count"] (rX K C CF)):ff P w K mg base (CXF P w) 14 f fd ["reader","count","first_parent"] (uc K C CF):=by
 refine okX (k:=13) F sm fun cdv A outer s H vs Q E hr h=>?_
 ·obtain ⟨r,s,b,n,c,x,rfl,⟨dx,hI⟩,hS,nsr,hn,sz,k1,k2⟩:=h
  have nd:=sm.nd;have hr2:fi 2 _:=hr.mono (by decide);refine ⟨_,eE (eO (i:=3) nd U (Gy U) (eQ (pv 0) U))
   (eE (eO (i:=4) nd U (Gy U) (eV G hr U fD (eA (pv 0) (eA (pv 1) eF))))
   (eE (fF (PW.pt (qu (gP (vI (pv 4))) (ny (PW.pt (wX (gP (jI (pv 2))) (sD (eX io (pv 4) (pv 2) (fb _))))))))
    (eI (hZ FO hr2 (hr.hd (by decide)) U jT (eA (fO T.number U) (eA (pv 3) eF)))) eY)
   (eI (eP (pv 4))))),?_⟩
  refine ⟨_,U,r,C,dx,_,_,U,hI,T.cl,T.nA,kh _ _,?_⟩;refine ⟨_,U,_,U,r,s,b,n,c,U,⟨dx,hI⟩,hS,nsr,hn,sz,k1,fun g=>?_⟩
  obtain ⟨k3,k4⟩:=k2 g;generalize ofLe (HU b n 4)=y at k3 k4 ⊢;refine ⟨fun q=>k3 ⟨q.1,.inl q.2⟩,fun q H1 s1 hR1=>?_⟩
  have bad:y≠4294967295->(x=4294967295∨x=y)->je CF E 3 n H1:=fun q1 q2=>((k3 ⟨q1,.inr q2⟩).of s1).to
  have good:(y=4294967295∨¬ (x=4294967295∨x=y))->Q (optV (parentOf y)) H1:=fun q1=>k4 (fun z=>by
   rcases q1 with q1 | q1
   ·exact z.1 q1
   ·rcases z.2 with z2 | z2
    ·exact q ⟨z.1,z2⟩
    ·exact q1 z2) H1 s1 hR1
  by_cases hy:y=4294967295
  ·have ey:parentOf y=none:=by unfold parentOf;rw [Ga hy]
   rw [ey] at good ⊢;exact ⟨_,U,_,U,_,U,good (.inl hy)⟩
  have ey:parentOf y=some y:=by unfold parentOf;rw [F9 hy]
  rw [ey] at good ⊢;refine ⟨_,U,_,U,(Ga U).mpr ?_⟩;by_cases hx:x=4294967295
  ·have ex:parentOf x=none:=by unfold parentOf;rw [Ga hx]
   rw [ex];exact ⟨_,U,_,U,(Ga U).mpr ⟨_,U,iW (bad hy (.inl hx))⟩⟩
  have ex:parentOf x=some x:=by unfold parentOf;rw [F9 hx]
  rw [ex];refine ⟨_,rfl,_,rfl,(F9 (fun z=>by have z:=Gd z;cases z)).mpr ⟨_,rfl,_,rfl,rfl,_,rfl,?_⟩⟩
  refine gh (fun q2=>?_) (fun q2=>?_)
  ·have q2:x=y:=by
    have q2:=Gd q2;injection q2 with q2
    omega
   exact ⟨_,U,iW (bad hy (.inr q2))⟩
  ·have q2:¬ x=y:=fun z=>q2 (Gb (by rw [z]))
   exact ⟨_,U,good (.inr fun z=>z.elim hx q2)⟩
abbrev Ver:=SwVersion.Version
abbrev His:=Gv
theorem fj.le:∀ {ls:List Gn},(∀ l∈ls,l≠[])->ls.length<=(joinedL ls).length
 | [],_=>G5 _
 | l::ls,h=>by
  have ih:=fj.le (ls:=ls) fun x hx=>h x (G3 _ hx)
  have h0:0<l.length:=List.length_pos_iff.mpr (h l Hf);rw [Lb.iZ,Gi,GQ];omega
theorem xo (b:Gn):(linesOf b).length<=b.length:=by
 have:=fj.le (ls:=linesOf b) fun l hl=>(Lb.gp b).ne hl
 rwa [Lb.fK] at this
theorem lZ {a:List Gn}:∀ {l:List Ju} {i:Nat},gq a i l->i<=a.length->(patched a i l).length<=(a.length-i)+(l.flatMap encP).length
 | [],i,_,hi=>by
  show (a.drop i).length<=_;rw [Hv];omega
 | p::l,i,⟨h1,h2,_,_,_,_,_,h3⟩,hi=>by
  have ih:=lZ h3 h2;show (someOf a i (p.from_-i)++(linesOf p.bytes++patched a (p.from_+p.dropped) l)).length<=_;have e1:(someOf a i (p.from_-i)).length<=p.from_-i:=by
   unfold someOf;rw [HF];omega
  have e2:=xo p.bytes;rw [Gi,Gi,I0,Gi];have e3:p.bytes.length<=(encP p).length:=by
   unfold encP;simp only [Gi];omega
  omega
theorem fL {t:Gn} (h:isText t=true):(linesOf t).length<=2048:=by
 unfold isText at h;rw [G8] at h;exact Gd h.2
theorem iM {t:Gn} (h:isText t=true):t.length<=65536:=by
 unfold isText at h;rw [G8] at h;exact Gd h.1
theorem jJ (a b:Gn):patchBytes ((between (linesOf a) (linesOf b)).map toPiece)=patchOf a b:=by
 unfold SwVersion.patchOf;rw [Lb.lx]
section
variable {H H':Hp} {x:Gf} {C dx:Gf} {fs:List (G9×V)}
theorem eS.ins {p:Gf} {ls:List Gn} (h:eS H p ls) (hx:H x=some (.ins C dx fs)) (b:But x H H'):eS H' p ls:=by
 obtain ⟨as,e,l⟩:=h;exact ⟨as,b _ _ e (fG e hx (by intro z;cases z)),l.same fun a ts z=>b _ _ z (fG z hx (by intro z;cases z))⟩
theorem hG.ins {p:Gf} {xs:List k9} (h:hG H p xs) (hx:H x=some (.ins C dx fs)) (b:But x H H'):hG H' p xs:=by
 obtain ⟨as,e,l⟩:=h;refine ⟨as,b _ _ e (fG e hx (by intro z;cases z)),l.len,fun i a y e1 e2=>?_⟩
 obtain ⟨q,g1,g2⟩:=l.at_ i a y e1 e2;exact ⟨q,b _ _ g1 (fG g1 hx (by intro z;cases z)),g2.ins hx b⟩
theorem BC {o:HO} {u:Gf} (b:But x H H') (hx:H' x=some o) (nu:H' u=none):H u=none:=by
 by_cases e:H u=none
 ·exact e
 ·obtain ⟨o',ho⟩:=HN.mp e
  have ux:u≠x:=fun z=>by rw [z,hx] at nu;cases nu
  rw [b _ _ ho ux] at nu;cases nu
theorem rq {d x C:Gf} (nx:H x=none) (nd:H d=none) (ne:d≠x):eT H (upd (upd H d (.own x)) x (.ins C d [])):=(L2.upN nd).new (by rw [eK (HA ne)];exact nx)
end
def vn (os:List (Option Nat)):List Nat:=os.filterMap id
def vf (f s:Option Nat) (l k:Gf) (p o:V):List (G9×V):=putF "origins" o (putF "kept" (.ref k) (putF "patch" p (putF "lines" (.ref l) (putF "second_parent" (optV s) (putF "first_parent" (optV f) [])))))
def hf (vl:Gf) (n:Int):List (G9×V):=putF "kept_size" (.int n) (putF "versions" (.ref vl) [])
section
variable (f s:Option Nat) (l k:Gf) (p o:V)
theorem qe:(vf f s l k p o).lookup ("origins":G9)=some o:=by
 unfold vf;rw [eJ,Ga rfl]
theorem kG:(vf f s l k p o).lookup ("kept":G9)=some (.ref k):=by
 unfold vf;rw [eJ,F9 (by decide +kernel),eJ,Ga rfl]
theorem BK:(vf f s l k p o).lookup ("patch":G9)=some p:=by
 unfold vf;rw [eJ,F9 (by decide +kernel),eJ,F9 (by decide +kernel),eJ,Ga rfl]
theorem jS:(vf f s l k p o).lookup ("lines":G9)=some (.ref l):=by
 unfold vf;rw [eJ,F9 (by decide +kernel),eJ,F9 (by decide +kernel),eJ,F9 (by decide +kernel),eJ,Ga rfl]
theorem jR:(vf f s l k p o).lookup ("second_parent":G9)=some (optV s):=by
 unfold vf;rw [eJ,F9 (by decide +kernel),eJ,F9 (by decide +kernel),eJ,F9 (by decide +kernel),eJ,F9 (by decide +kernel),eJ,Ga rfl]
theorem lj:(vf f s l k p o).lookup ("first_parent":G9)=some (optV f):=by
 unfold vf;rw [eJ,F9 (by decide +kernel),eJ,F9 (by decide +kernel),eJ,F9 (by decide +kernel),eJ,F9 (by decide +kernel),eJ,F9 (by decide +kernel),eJ,Ga rfl]
theorem vf_no {m:G9} (h1:¬ m = "origins") (h2:¬ m = "kept") (h3:¬ m = "patch") (h4:¬ m = "lines") (h5:¬ m = "second_parent") (h6:¬ m = "first_parent"):(vf f s l k p o).lookup m=none:=by
 unfold vf;rw [eJ,F9 h1,eJ,F9 h2,eJ,F9 h3,eJ,F9 h4,eJ,F9 h5,eJ,F9 h6];rfl
theorem vf_put (o':V):putF "origins" o' (vf f s l k p o)=vf f s l k p o':=rfl
end
theorem fX (vl:Gf) (n:Int):(hf vl n).lookup ("versions":G9)=some (.ref vl):=by
 unfold hf;rw [eJ,F9 (by decide +kernel),eJ,Ga rfl]
theorem Ap (vl:Gf) (n:Int):(hf vl n).lookup ("kept_size":G9)=some (.int n):=by
 unfold hf;rw [eJ,Ga rfl]
theorem pO (vl:Gf) (n:Int) {m:G9} (h1:¬ m = "kept_size") (h2:¬ m = "versions"):(hf vl n).lookup m=none:=by
 unfold hf;rw [eJ,F9 h1,eJ,F9 h2];rfl
structure TxV (K:Gh) (mg:G9->Option Gg) (CV CH:Gf):Prop where
 len:mg "len"=none
 max:mg "max"=none
 sorted:mg "sorted"=none
 range:mg "range"=none
 versions:fW mg "MOST_VERSIONS" 64
 kept:fW mg "MOST_KEPT" 1048576
 clV:Cls K CV
 clH:Cls K CH
 nF:fq K CV "first_parent"
 nS:fq K CV "second_parent"
 nL:fq K CV "lines"
 nP:fq K CV "patch"
 nK:fq K CV "kept"
 nO:fq K CV "origins"
 nV:fq K CH "versions"
 nZ:fq K CH "kept_size"
def og (H:Hp) (ok:Gf->Prop) (h:His) (v:Ver) (p:V):Prop:=match v.first with
 | none=>p = .non
 | some q=>∃ a,p = .ref a/\mZ H ok a (between (linesOf (Gs h q)) (linesOf v.text))
def xQ (H:Hp) (ok:Gf->Prop) (h:His) (i:Nat) (o:V):Prop:=o = .non∨∃ a,o = .ref a/\ok a/\H a=some (.lst ((h.whence i).map fun n=>V.int (n:Nat)))
def kD (CV:Gf) (H:Hp) (ok:Gf->Prop) (a:Gf) (h:His) (i:Nat) (v:Ver):Prop:=∃ dx l k p o,ok l/\ok k/\H a=some (.ins CV dx (vf v.first v.second l k p o))/\eS H l (linesOf v.text)/\H k=some (.lst ((h.kept v).map vb))/\og H ok h v p/\xQ H ok h i o
def ou (CV:Gf) (H:Hp) (ok:Gf->Prop) (a l:Gf) (h:His) (v:Ver):Prop:=∃ dx k p,ok k/\H a=some (.ins CV dx (vf v.first v.second l k p .non))/\eS H l (linesOf v.text)/\H k=some (.lst ((h.kept v).map vb))/\og H ok h v p
structure Kp (ok:Gf->Prop) (H H':Hp):Prop where
 at_:∀ b xs,ok b->H b=some (.lst xs)->H' b=some (.lst xs)
 tup:∀ b xs,H b=some (.tup xs)->H' b=some (.tup xs)
theorem _root_.L2.eT.kp {ok:Gf->Prop} {H H':Hp} (s:eT H H'):Kp ok H H':=⟨fun b o _ e=>s b _ e,fun b xs e=>s b _ e⟩
section
variable {CV CH:Gf} {H H':Hp} {ok ok':Gf->Prop} {a vl l:Gf} {as:List Gf} {h:His} {i:Nat} {v:Ver} {p o:V}
theorem eS.kp {ls:List Gn} (x:eS H l ls) (ol:ok l) (s:Kp ok H H'):eS H' l ls:=let ⟨as,e,f⟩:=x;⟨as,s.at_ _ _ ol e,f.same s.tup⟩
theorem mZ.keep {xs:List k9} (x:mZ H ok a xs) (s:Kp ok H H'):mZ H' ok a xs:=by
 obtain ⟨as,o,e,f,g⟩:=x;refine ⟨as,o,s.at_ _ _ o e,f,fun i b y e1 e2=>?_⟩
 obtain ⟨q,g0,g1,g2⟩:=g i b y e1 e2;exact ⟨q,g0,s.tup _ _ g1,g2.kp g0 s⟩
theorem og.keep (x:og H ok h v p) (s:Kp ok H H'):og H' ok h v p:=by
 unfold og at x ⊢;cases hf:v.first with
 | none=>rw [hf] at x;exact x
 | some q =>
  rw [hf] at x;obtain ⟨a,e,f⟩:=x;exact ⟨a,e,f.keep s⟩
theorem og.imp (x:og H ok h v p) (f:∀ b,H b≠none->ok b->ok' b):og H ok' h v p:=by
 unfold og at x ⊢;cases hf:v.first with
 | none=>rw [hf] at x;exact x
 | some q =>
  rw [hf] at x;obtain ⟨a,e,g⟩:=x;exact ⟨a,e,g.imp f⟩
theorem og.app {u:Ver} (x:og H ok h v p) (hv:∀ q,v.first=some q->q<h.length):og H ok (h++[u]) v p:=by
 unfold og at x ⊢;cases e:v.first with
 | none=>rw [e] at x;exact x
 | some q =>
  rw [e] at x;obtain ⟨a,e',g⟩:=x;refine ⟨a,e',?_⟩;rw [Lb.rQ (hv q e)];exact g
theorem xQ.keep (x:xQ H ok h i o) (s:Kp ok H H'):xQ H' ok h i o:=x.imp id fun ⟨a,e,g,f⟩=>⟨a,e,g,s.at_ _ _ g f⟩
theorem xQ.imp (x:xQ H ok h i o) (f:∀ b,H b≠none->ok b->ok' b):xQ H ok' h i o:=Or.imp id (fun ⟨a,e,g,z⟩=>⟨a,e,f _ (by rw [z];exact fun z=>nomatch z) g,z⟩) x
theorem eS.nn {ls:List Gn} (x:eS H l ls):H l≠none:=by
 obtain ⟨as,e,_⟩:=x;rw [e];exact fun z=>nomatch z
theorem kD.keep (x:kD CV H ok a h i v) (s:Kp ok H H') (e:H' a=H a):kD CV H' ok a h i v:=by
 obtain ⟨dx,l,k,p,o,o1,o2,e1,e2,e3,e4,e5⟩:=x;exact ⟨dx,l,k,p,o,o1,o2,e.trans e1,e2.kp o1 s,s.at_ _ _ o2 e3,e4.keep s,e5.keep s⟩
theorem kD.imp (x:kD CV H ok a h i v) (f:∀ b,H b≠none->ok b->ok' b):kD CV H ok' a h i v:=by
 obtain ⟨dx,l,k,p,o,o1,o2,e1,e2,e3,e4,e5⟩:=x;exact ⟨dx,l,k,p,o,f _ e2.nn o1,f _ (by rw [e3];exact fun z=>nomatch z) o2,e1,e2,e3,e4.imp f,e5.imp f⟩
theorem ou.keep (x:ou CV H ok a l h v) (s:Kp ok H H') (ol:ok l) (e:H' a=H a):ou CV H' ok a l h v:=by
 obtain ⟨dx,k,p,o2,e1,e2,e3,e4⟩:=x;exact ⟨dx,k,p,o2,e.trans e1,e2.kp ol s,s.at_ _ _ o2 e3,e4.keep s⟩
theorem ou.imp (x:ou CV H ok a l h v) (f:∀ b,H b≠none->ok b->ok' b):ou CV H ok' a l h v:=by
 obtain ⟨dx,k,p,o2,e1,e2,e3,e4⟩:=x;exact ⟨dx,k,p,f _ (by rw [e3];exact fun z=>nomatch z) o2,e1,e2,e3,e4.imp f⟩
structure wb (CV:Gf) (H:Hp) (ok:Gf->Prop) (as:List Gf) (h:His):Prop where
 len:as.length=h.length
 nd:as.Nodup
 at_:∀ (i:Nat) (a:Gf) (v:Ver),as[i]?=some a->h[i]?=some v->kD CV H ok a h i v
theorem wb.nil:wb CV H ok [] []:=⟨rfl,List.nodup_nil,fun i a v e _=>by simp at e⟩
theorem wb.snoc (x:wb CV H ok as h) (W:WF h) (W':WF (h++[v])) (hv:∀ q,v.first=some q->q<h.length) (ol:ok l) (na:a∉as) (e:ou CV H ok a l h v):wb CV H ok (as++[a]) (h++[v]):=by
 refine ⟨by simp [x.len],?_,fun i b u e1 e2=>?_⟩
 ·rw [List.nodup_append]
  refine ⟨x.nd,by simp,fun b hb c hc=>?_⟩
  rw [G7.mp hc];exact fun z=>na (z▸hb)
 by_cases hi:i<as.length
 ·rw [G6 hi] at e1
  rw [G6 (by rw [← x.len];exact hi)] at e2;have w:=W i u e2;have w1:∀ q,u.first=some q->q<h.length:=fun q hq=>by have:=w.1 q hq;have:=x.len;omega
  obtain ⟨dx,l',k,p,o,o1,o2,g1,g2,g3,g4,g5⟩:=x.at_ i b u e1 e2;refine ⟨dx,l',k,p,o,o1,o2,g1,g2,?_,g4.app w1,?_⟩
  ·rw [Lb.pL w1];exact g3
  ·unfold xQ at g5 ⊢
   rw [Lb.xT W W' i i (Go _) (by rw [← x.len];exact hi)];exact g5
 ·have h1:=(Gj.mp e1).1
  have:i=as.length:=by simp at h1;omega
  subst this;rw [Hg (Go _)] at e1;rw [x.len,Hg (Go _)] at e2;simp at e1 e2;subst e1 e2;obtain ⟨dx,k,p,o2,g1,g2,g3,g4⟩:=e;refine ⟨dx,l,k,p,.non,ol,o2,g1,g2,?_,g4.app hv,.inl U⟩;rw [Lb.pL hv];exact g3
def fh (CV CH:Gf) (H:Hp) (ok:Gf->Prop) (a vl:Gf) (as:List Gf) (h:His):Prop:=∃ dx,¬ ok vl/\H a=some (.ins CH dx (hf vl (h.size:Nat)))/\H vl=some (.lst (as.map V.ref))/\wb CV H ok as h
theorem fh.keep (x:fh CV CH H ok a vl as h) (s:Kp ok H H') (k:∀ b o,b∈a::vl::as->H b=some o->H' b=some o):fh CV CH H' ok a vl as h:=by
 obtain ⟨dx,n,e1,e2,e3⟩:=x;refine ⟨dx,n,k _ _ (by simp) e1,k _ _ (by simp) e2,e3.len,e3.nd,fun i b v g1 g2=>?_⟩
 have z:=e3.at_ i b v g1 g2;obtain ⟨dx',l',k',p',o',_,_,w,_⟩:=id z;exact z.keep s ((k _ _ (by simp [HG g1]) w).trans w.symm)
theorem fh.same (x:fh CV CH H ok a vl as h) (s:eT H H'):fh CV CH H' ok a vl as h:=x.keep s.kp fun b o _ e=>s b o e
theorem fh.weak (x:fh CV CH H ok a vl as h) (f:∀ b,H b≠none->ok b->ok' b) (nv:¬ ok' vl):fh CV CH H ok' a vl as h:=by
 obtain ⟨dx,n,e1,e2,e3⟩:=x;exact ⟨dx,nv,e1,e2,e3.len,e3.nd,fun i b v g1 g2=>(e3.at_ i b v g1 g2).imp f⟩
theorem fh.nokv (x:fh CV CH H ok a vl as h):¬ ok vl:=let ⟨_,n,_⟩:=x;n
theorem fh.there (x:fh CV CH H ok a vl as h) {b:Gf} (hb:b∈a::vl::as):H b≠none:=by
 obtain ⟨dx,n,e1,e2,e3⟩:=x;rcases Gu.mp hb with rfl | hb
 ·rw [e1];exact fun z=>nomatch z
 rcases Gu.mp hb with rfl | hb
 ·rw [e2];exact fun z=>nomatch z
 obtain ⟨i,hi⟩:=Jl hb;have hl:i<h.length:=by rw [← e3.len];exact (Gj.mp hi).1
 obtain ⟨dx',l',k',p',o',_,_,w,_⟩:=e3.at_ i b _ hi (Gk hl);rw [w];exact fun z=>nomatch z
theorem fh.ne (x:fh CV CH H ok a vl as h):a≠vl:=by
 obtain ⟨dx,_,e1,e2,_⟩:=x;exact fG e1 e2 (by intro z;cases z)
theorem vf_hf {f s:Option Nat} {l k:Gf} {p o:V} {vl:Gf} {n:Int} (e:vf f s l k p o=hf vl n):False:=by
 have:=kG f s l k p o;rw [e,pO _ _ (by decide +kernel) (by decide +kernel)] at this;cases this
theorem fh.ver (x:fh CV CH H ok a vl as h) {b:Gf} {dx:Gf} {f s:Option Nat} {l k:Gf} {p o:V} (e:H b=some (.ins CV dx (vf f s l k p o))):b≠a/\b≠vl:=by
 obtain ⟨dx',_,e1,e2,_⟩:=x;refine ⟨fG e e1 fun z=>?_,fG e e2 (by intro z;cases z)⟩
 injection z with _ _ z
 exact vf_hf z
theorem fh.verM (x:fh CV CH H ok a vl as h) {b:Gf} (hb:b∈as):∃ (i:Nat) (v:Ver),as[i]?=some b/\h[i]?=some v/\kD CV H ok b h i v:=by
 obtain ⟨dx,n,e1,e2,e3⟩:=x;obtain ⟨i,hi⟩:=Jl hb;have hl:i<h.length:=by rw [← e3.len];exact (Gj.mp hi).1
 exact ⟨i,_,hi,Gk hl,e3.at_ i b _ hi (Gk hl)⟩
theorem fh.verI (x:fh CV CH H ok a vl as h) {i:Nat} {v:Ver} (hv:h[i]?=some v):∃ b,as[i]?=some b/\kD CV H ok b h i v:=by
 obtain ⟨dx,n,e1,e2,e3⟩:=x;have hl:i<as.length:=by rw [e3.len];exact (Gj.mp hv).1
 exact ⟨_,Gk hl,e3.at_ i _ v (Gk hl) hv⟩
theorem fh.kp (x:fh CV CH H ok a vl as h) (b:Bt a vl H H'):Kp ok H H':=by
 obtain ⟨dx,n1,e1,e2,_⟩:=x;exact ⟨fun c xs oc e=>b c _ e (fG e e1 (by intro z;cases z)) (fun z=>n1 (z▸oc)),fun c xs e=>b c _ e (fG e e1 (by intro z;cases z)) (fG e e2 (by intro z;cases z))⟩
end
def okF (H:Hp) (ok:Gf->Prop) (b:Gf):Prop:=ok b∨H b=none
def zk (CV:Gf):Sp:=fun vs H Q _=>∃ (x dx:Gf) (f s:Option Nat) (l:Gf) (p:V) (ls:List Gn) (kb:Gn),vs=[.ref x,optV f,optV s,.ref l,p]/\H x=some (.ins CV dx [])/\eS H l ls/\kb.length<=sizeLine/\((p = .non/\kb=joinedL ls)∨∃ pa xs,p = .ref pa/\hG H pa xs/\kb=patchBytes (xs.map toPiece)) /\
 ∀ (H':Hp) (k:Gf),H k=none->H' k=some (.lst (kb.map vb))->H' x=some (.ins CV dx (vf f s l k p .non))->But x H H'->Q .non H'
def B5 (CV:Gf):Sp:=fun vs H Q _=>∃ (x dx:Gf) (f s:Option Nat) (l k:Gf) (p o:V),vs=[.ref x]/\H x=some (.ins CV dx (vf f s l k p o))/\∀ (H':Hp) (r:Gf),eT H H'->H r=none->H' r=some (.lst ((vn [f,s]).map fun n=>V.int (n:Nat)))->Q (.ref r) H'
def vw (CH:Gf):Sp:=fun vs H Q _=>∃ (x dx:Gf),vs=[.ref x]/\H x=some (.ins CH dx [])/\∀ (H':Hp) (vl:Gf),H vl=none->H' x=some (.ins CH dx (hf vl 0))->H' vl=some (.lst [])->But x H H'->Q .non H'
def zA (CV CH:Gf):Sp:=fun vs H Q _=>∃ (a vl:Gf) (as:List Gf) (h:His) (ok:Gf->Prop),vs=[.ref a]/\fh CV CH H ok a vl as h/\Q (.bl (decide (64<=h.length))) H
def vp (CV CH:Gf):Sp:=fun vs H Q _=>∃ (a vl:Gf) (as:List Gf) (h:His) (ok:Gf->Prop) (z:Nat),vs=[.ref a,.int (z:Nat)]/\fh CV CH H ok a vl as h/\Q (.bl (decide (h.size+z<=1048576))) H
def vt (CV CH:Gf):Sp:=fun vs H Q _=>∃ (a vl:Gf) (as:List Gf) (h:His) (ok:Gf->Prop) (u:Ver) (l:Gf),vs=[.ref a,optV u.first,optV u.second,.ref l]/\fh CV CH H ok a vl as h/\WF h/\(∀ q,u.first=some q->q<h.length)/\isText u.text=true/\eS H l (linesOf u.text) /\
 ∀ (H':Hp) (x:Gf),eT H H'->H x=none->ou CV H' (fun b=>H b=none) x l h u->Q (.ref x) H'
def r9 (CV CH:Gf):Sp:=fun vs H Q _=>∃ (a vl v l:Gf) (as:List Gf) (h:His) (u:Ver) (ok:Gf->Prop),vs=[.ref a,.ref v]/\fh CV CH H ok a vl as h/\WF h/\WF (h++[u])/\(∀ q,u.first=some q->q<h.length)/\ou CV H ok v l h u/\ok l/\v∉as/\h.length<1000/\∀ H':Hp,Bt a vl H H'->fh CV CH H' ok a vl (as++[v]) (h++[u])->Q .non H'
theorem Cd:eM ["self","first_parent","second_parent","lines","patch"] ["self","first_parent","second_parent","lines","patch"] (defScope ke):=mkSc
theorem C6 {f CV CH:Gf} {fd:GG} (F:Fun K "__init__" "Version.__init__" ke f fd) (T:TxV K mg CV CH) (GJ:Fn P w K mg base 11 "join_lines" ["lines"] (qi K)) (GB:Fn P w K mg base 12 "patch_bytes" ["patch"] (oZ K)):ff P w K mg base (CXF P w) 13 f fd ["self","first_parent","second_parent","lines","patch"] (zk CV):=by
 refine okN (k:=12) F Cd fun cdv A outer s H vs Q E hr h=>?_
 ·obtain ⟨x,dx,f,s,l,p,ls,kb,rfl,he,hl,kz,hp,q⟩:=h
  have hr11:fi 11 _:=hr.mono (by decide);refine ⟨_,eE (gw (pv 0) (pv 1) U) (eE (gw (pv 0) (pv 2) U) (eE (gw (pv 0) (pv 3) U) (eE (gw (pv 0) (pv 4) U)
   (eE (gw (pv 0) (ko (gP (jI (pv 4))) (eV GJ hr11 U eG (eA (pv 3) eF)) (eV GB hr U eG (eA (pv 4) eF))) U) (eI (gw (pv 0) mJ U)))))),?_⟩
  refine ⟨_,rfl,_,rfl,x,CV,dx,[],rfl,he,T.clV,T.nF,(by show 0<1000;decide),?_⟩;refine ⟨_,rfl,_,rfl,x,CV,dx,_,rfl,eC,T.clV,T.nS,(by show 1<1000;decide),?_⟩;refine ⟨_,rfl,_,rfl,x,CV,dx,_,rfl,eC,T.clV,T.nL,(by show 2<1000;decide),?_⟩;refine ⟨_,rfl,_,rfl,x,CV,dx,_,rfl,eC,T.clV,T.nP,(by show 3<1000;decide),?_⟩;have b4:But x H (upd (upd (upd (upd H x (.ins CV dx (putF "first_parent" (optV f) []))) x (.ins CV dx (putF "second_parent" (optV s) (putF "first_parent" (optV f) [])))) x (.ins CV dx (putF "lines" (.ref l) (putF "second_parent" (optV s) (putF "first_parent" (optV f) []))))) x (.ins CV dx (putF "patch" p (putF "lines" (.ref l) (putF "second_parent" (optV s) (putF "first_parent" (optV f) [])))))):=But.refl.upd.upd.upd.upd;have e4:upd (upd (upd (upd H x (.ins CV dx (putF "first_parent" (optV f) []))) x (.ins CV dx (putF "second_parent" (optV s) (putF "first_parent" (optV f) [])))) x (.ins CV dx (putF "lines" (.ref l) (putF "second_parent" (optV s) (putF "first_parent" (optV f) []))))) x (.ins CV dx (putF "patch" p (putF "lines" (.ref l) (putF "second_parent" (optV s) (putF "first_parent" (optV f) []))))) x=some (.ins CV dx (putF "patch" p (putF "lines" (.ref l) (putF "second_parent" (optV s) (putF "first_parent" (optV f) []))))):=eC;generalize upd (upd (upd (upd H x (.ins CV dx (putF "first_parent" (optV f) []))) x (.ins CV dx (putF "second_parent" (optV s) (putF "first_parent" (optV f) [])))) x (.ins CV dx (putF "lines" (.ref l) (putF "second_parent" (optV s) (putF "first_parent" (optV f) []))))) x (.ins CV dx (putF "patch" p (putF "lines" (.ref l) (putF "second_parent" (optV s) (putF "first_parent" (optV f) [])))))=H4 at b4 e4 ⊢;have fin:∀ (H5:Hp) (k:Gf),eT H4 H5->H4 k=none->H5 k=some (.lst (kb.map vb))->Q .non (upd (upd H5 x (.ins CV dx (putF "kept" (.ref k) (putF "patch" p (putF "lines" (.ref l) (putF "second_parent" (optV s) (putF "first_parent" (optV f) []))))))) x (.ins CV dx (vf f s l k p .non))):=by
   intro H5 k s5 nk hk;have kx:k≠x:=fun z=>by rw [z,e4] at nk;cases nk
   refine q _ k (BC b4 e4 nk) ?_ eC (b4.trans s5.but).upd.upd;rw [eK kx,eK kx];exact hk
  rcases hp with ⟨rfl,rfl⟩ | ⟨pa,xs,rfl,hpa,rfl⟩
  ·refine ⟨_,U,_,U,(Ga U).mpr ?_⟩
   refine ⟨_,U,l,ls,U,hl.ins he b4,kz,fun H5 k s5 nk hk=>?_⟩
   refine ⟨_,rfl,x,CV,dx,_,rfl,s5 _ _ e4,T.clV,T.nK,(by show 4<1000;decide),?_⟩;refine ⟨_,rfl,x,CV,dx,_,rfl,eC,T.clV,T.nO,(by show 5<1000;decide),?_⟩;exact fin H5 k s5 nk hk
  ·refine ⟨_,U,_,U,(F9 (by simp)).mpr ?_⟩
   refine ⟨_,U,pa,xs,U,hpa.ins he b4,kz,fun H5 k s5 nk hk=>?_⟩
   refine ⟨_,rfl,x,CV,dx,_,rfl,s5 _ _ e4,T.clV,T.nK,(by show 4<1000;decide),?_⟩;refine ⟨_,rfl,x,CV,dx,_,rfl,eC,T.clV,T.nO,(by show 5<1000;decide),?_⟩;exact fin H5 k s5 nk hk
theorem zT:eM ["self","parent"] ["self"] (defScope gb):=mkSc
theorem Fk {f CV CH:Gf} {fd:GG} (F:Fun K "both_parents" "Version.both_parents" gb f fd) (T:TxV K mg CV CH):ff P w K mg base (CXF P w) 11 f fd ["self"] (B5 CV):=by
 refine okN (k:=10) F zT fun cdv A outer s H vs Q E hr h=>?_
 ·obtain ⟨x,dx,f,s,l,k,p,o,rfl,hx,q⟩:=h
  have nd:=zT.nd;refine ⟨_,eI (eP (qL (own:=[("parent",1)]) U nd (vD (iE (eA (eQ (pv 0) U) (eA (eQ (pv 0) U) eF)))) (iq (N:=["self","parent"]) (sc:=defScope gb) (by decide +kernel)) (fun _ _ _ _ _=>eZ (i:=1) nd U (Gy U)) (fun _ _ _ _ _=>vB (gP (vI (pv 1))))
   (fun _ _ _ _ _=>pv 1))),?_⟩
  refine ⟨_,rfl,x,CV,dx,_,_,rfl,hx,T.clV,T.nF,lj _ _ _ _ _ _,_,rfl,x,CV,dx,_,_,rfl,hx,T.clV,T.nS,jR _ _ _ _ _ _,(by show 2<=sizeLine;decide),fun t nt=>⟨t,rfl,⟨_,SqT.of eC⟩,fun D nD=>?_⟩⟩
  have s0:eT H (upd H t (.tup [optV f,optV s])):=L2.upN nt;have nD0:H D=none:=s0.free nD;refine DL (K:=K) (a:=t) (xs:=[f,s].map optV) (fun i H'=>eT H H'/\H' t=some (.tup ([f,s].map optV))/\H' D=some (.lst ((vn ([f,s].take i)).map fun n=>V.int (n:Nat)))) ⟨s0.new nD,L2.upN nD _ _ eC,eC⟩ (fun i H' _ ⟨_,ht,_⟩=>SqT.of ht) ?_ ?_
  ·rintro i y H1 hy ⟨s1,ht,h1⟩
   obtain ⟨z,hz,rfl⟩:=fz hy;have il:=(Gj.mp hz).1;have ev:vn ([f,s].take (i+1))=vn ([f,s].take i)++vn [z]:=by
    unfold vn;rw [HP,hz,List.filterMap_append];rfl
   refine ⟨U,_,U,_,U,?_⟩;cases z with
   | none =>
    refine (F9 (by simp [optV])).mpr ⟨s1,ht,?_⟩;rw [ev,h1];simp [vn]
   | some n =>
    refine (Ga (by simp [optV])).mpr ⟨_,U,_,h1,?_,s1.own nD0,?_,?_⟩
    ·rw [Ge,Hj]
     have:=JZ id ([f,s].take i);have:([f,s].take i).length<=2:=by rw [HF];exact Nat.min_le_right _ _
     show (([f,s].take i).filterMap id).length<_;omega
    ·rw [eK (fG ht h1 (by intro z;cases z))]
     exact ht
    ·rw [eC,ev,Gr]
     rfl
  ·rintro H1 ⟨s1,ht,h1⟩
   exact q H1 D s1 nD0 h1
theorem Cq:eM ["self"] ["self"] (defScope kg):=mkSc
theorem Do {f CV CH:Gf} {fd:GG} (F:Fun K "__init__" "History.__init__" kg f fd) (T:TxV K mg CV CH):ff P w K mg base (CXF P w) 1 f fd ["self"] (vw CH):=by
 refine okN (k:=0) F Cq fun cdv A outer s H vs Q E hr h=>?_
 ·obtain ⟨x,dx,rfl,he,q⟩:=h
  refine ⟨_,eE (gw (pv 0) (fP eF) U) (eI (gw (pv 0) eN U)),?_⟩;refine ⟨G5 _,fun r nr=>?_⟩
  have hm:=L2.upN (o := .lst []) nr _ _ he;refine ⟨_,rfl,x,CH,dx,[],rfl,hm,T.clH,T.nV,(by show 0<1000;decide),?_⟩;refine ⟨_,rfl,x,CH,dx,_,rfl,eC,T.clH,T.nZ,(by show 1<1000;decide),?_⟩;have rm:r≠x:=fun z=>by rw [z,he] at nr;cases nr
  refine q _ r nr eC ?_ ((But.refl.new nr).upd.upd);rw [eK rm,eK rm,eC]
theorem Cr:eM ["self"] ["self"] (defScope iU):=mkSc
theorem Dq {f CV CH:Gf} {fd:GG} (F:Fun K "is_full" "History.is_full" iU f fd) (T:TxV K mg CV CH):ff P w K mg base (CXF P w) 1 f fd ["self"] (zA CV CH):=by
 refine okN (k:=0) F Cr fun cdv A outer s H vs Q E hr h=>?_
 ·obtain ⟨a,vl,as,h,ok,rfl,⟨dx,n,e1,e2,e3⟩,q⟩:=h
  refine ⟨_,eI (eP (gC C4 (eU eL U T.len Gz (eA (eQ (pv 0) U) eF)) (fO T.versions U) (fb _))),?_⟩;refine ⟨_,U,a,CH,dx,_,_,U,e1,T.clH,T.nV,fX _ _,vl,_,U,.inl (SqL.of e2),_,_,U,U,?_⟩;rw [Ge,e3.len];rw [show decide (64<=h.length)=decide ((64:Int)<=(h.length:Nat)) from decide_eq_decide.mpr (by omega)] at q;exact q
theorem Cg:eM ["self","size"] ["self","size"] (defScope gL):=mkSc
theorem Db {f CV CH:Gf} {fd:GG} (F:Fun K "has_room_for" "History.has_room_for" gL f fd) (T:TxV K mg CV CH):ff P w K mg base (CXF P w) 1 f fd ["self","size"] (vp CV CH):=by
 refine okN (k:=0) F Cg fun cdv A outer s H vs Q E hr h=>?_
 ·obtain ⟨a,vl,as,h,ok,z,rfl,⟨dx,n,e1,e2,e3⟩,q⟩:=h
  refine ⟨_,eI (eP (gC FZ (fA gx (eQ (pv 0) U) (pv 1)) (fO T.kept U) (fb _))),?_⟩;refine ⟨_,U,a,CH,dx,_,_,U,e1,T.clH,T.nZ,Ap _ _,_,U,_,_,U,U,_,_,U,U,?_⟩;rw [show decide (h.size+z<=1048576)=decide (((h.size:Nat):Int)+(z:Nat)<=1048576) from decide_eq_decide.mpr (by omega)] at q;exact q
theorem wN:eM ["self","first_parent","second_parent","lines","patch"] ["self","first_parent","second_parent","lines"] (defScope gK):=mkSc
theorem Dj {f CV CH:Gf} {fd:GG} (F:Fun K "make_version" "History.make_version" gK f fd) (T:TxV K mg CV CH) (GV:Cl P w K mg base 13 CV "Version" ["self","first_parent","second_parent","lines","patch"] (zk CV)) (GB:Fn P w K mg base 15 "patch_between" ["old","new"] (qk K)):ff P w K mg base (CXF P w) 16 f fd ["self","first_parent","second_parent","lines"] (vt CV CH):=by
 refine okN (k:=15) F wN fun cdv A outer s H vs Q E hr h=>?_
 ·obtain ⟨a,vl,as,h,ok,u,l,rfl,hH,W,hu,ht,hl,q⟩:=h
  have nd:=wN.nd;have hr14:fi 14 _:=hr.mono (by decide);refine ⟨_,eE (fF (gP (jI (pv 1))) (eI (eP (uE GV hr14 U eG (eA (pv 1) (eA (pv 2) (eA (pv 3) (eA mJ eF))))))) eY)
   (eE (eO (i:=4) nd U (Gy U) (eV GB hr U eG (eA (eQ (fM fm (eQ (pv 0) U) (pv 1) (fun _ _=>U)) U) (eA (pv 3) eF))))
   (eI (eP (uE GV hr14 U eG (eA (pv 1) (eA (pv 2) (eA (pv 3) (eA (pv 4) eF)))))))),?_⟩
  have szl:sizeLine=16777216:=Hj;have kl:=Lb.DN W hu ht;obtain ⟨f0,s0,t0⟩:=u;have tl:(linesOf t0).length<=2048:=fL ht;have tz:t0.length<=65536:=iM ht;cases f0 with
  | none =>
   have kk:Ir h ⟨none,s0,t0⟩=t0:=rfl;refine ⟨_,U,_,U,(Ga U).mpr ?_⟩;refine ⟨_,U,_,U,_,U,fun x dx nx ndx ne=>?_⟩
   have s1:=rq (C:=CV) nx ndx ne;refine ⟨x,dx,none,s0,l,.non,linesOf t0,t0,U,eC,hl.same s1,by omega,.inl ⟨U,(Lb.fK _).symm⟩,fun H2 k nk hk hx b2=>⟨U,?_⟩⟩
   have s2:=gX nx ndx b2;exact q H2 x s2 nx ⟨dx,k,.non,s1.free nk,hx,hl.same s2,by rw [kk];exact hk,U⟩
  | some f0 =>
   have hf:=hu f0 rfl;have hv:h[f0]?=some h[f0]:=Gk hf;obtain ⟨b,hb,dv,lv,kv,pv',ov,_,_,v1,v2,_⟩:=hH.verI hv;obtain ⟨dh,nv,h1,h2,h3⟩:=id hH;have tx:Gs h f0=h[f0].text:=by
    unfold Gs;rw [hv];rfl
   have kk:Ir h ⟨some f0,s0,t0⟩=patchOf h[f0].text t0:=by
    show patchOf (Gs h f0) t0=_;rw [tx]
   have at_:atI (as.map V.ref) (f0:Nat)=some (V.ref b):=gE (by rw [Hh,hb];rfl);have ht0:=fL (W f0 _ hv).2.2;refine ⟨_,U,_,U,(F9 (by simp [optV])).mpr ?_⟩;refine ⟨_,U,a,CH,dh,_,_,U,h1,T.clH,T.nV,fX _ _,_,U,vl,_,_,_,U,U,SqL.of h2,at_,b,CV,dv,_,_,U,v1,T.clV,T.nL,jS _ _ _ _ _ _,_,U,?_⟩;refine ⟨lv,l,_,linesOf t0,U,v2,hl,by omega,by omega,fun H1 r s1 nr hr'=>?_⟩
   refine ⟨_,U,_,U,_,U,_,U,fun x dx nx ndx ne=>?_⟩
   have s2:=rq (C:=CV) nx ndx ne;rw [kk] at kl;refine ⟨x,dx,some f0,s0,l,.ref r,linesOf t0,patchOf h[f0].text t0,U,eC,(hl.same s1).same s2,by omega,.inr ⟨r,_,U,hr'.to.same s2,(jJ _ _).symm⟩,fun H2 k nk hk hx b2=>⟨U,?_⟩⟩
   have s12:=gX nx ndx b2;refine q H2 x (s1.trans s12) (s1.free nx) ⟨dx,k,.ref r,s1.free (s2.free nk),hx,hl.same (s1.trans s12),by rw [kk];exact hk,r,U,?_⟩;show mZ H2 _ r (between (linesOf (Gs h f0)) (linesOf t0));rw [tx];exact hr'.keep s12.kp
theorem AT:eM ["self","version"] ["self","version"] (defScope gY):=mkSc
theorem Bf {f CV CH:Gf} {fd:GG} (F:Fun K "add_version" "History.add_version" gY f fd) (T:TxV K mg CV CH):ff P w K mg base (CXF P w) 1 f fd ["self","version"] (r9 CV CH):=by
 refine okN (k:=0) F AT fun cdv A outer s H vs Q E hr h=>?_
 ·obtain ⟨a,vl,v,l,as,h,u,ok,rfl,hH,W,W',hu,hV,ol,nv,sz,k⟩:=h
  obtain ⟨dx,o2,e1,e2,e3⟩:=id hH;refine ⟨_,eE (fe (gm Gw HJ HI gG (eQ (pv 0) U) (eA (pv 1) eF)))
   (eI (nz (pv 0) (eU eL U T.len Gz (eA (eQ (pv 1) U) eF)) vO)),?_⟩
  refine ⟨_,U,a,CH,dx,_,_,U,e1,T.clH,T.nV,fX _ _,.inl ⟨U,_,SqL.of e2⟩,_,U,vl,_,_,U,U,e2,?_,?_⟩
  ·rw [Ge,e3.len,Hj]
   omega
  have n1:=hH.ne;obtain ⟨dv,ka,p,p3,v1,v2,v3,v4⟩:=id hV;obtain ⟨va,vvl⟩:=hH.ver v1;have e1':upd H vl (.lst (as.map V.ref++[.ref v])) a=some (.ins CH dx (hf vl (h.size:Nat))):=by
   rw [eK n1];exact e1
  have v1':upd H vl (.lst (as.map V.ref++[.ref v])) v=_:=(eK vvl).trans v1;have kn:ka≠vl:=fun z=>o2 (z▸p3)
  have v3':upd H vl (.lst (as.map V.ref++[.ref v])) ka=_:=(eK kn).trans v3;refine ⟨_,rfl,a,CH,dx,_,_,rfl,e1',T.clH,T.nZ,Ap _ _,_,rfl,v,CV,dv,_,_,rfl,v1',T.clV,T.nK,kG _ _ _ _ _ _,ka,_,rfl,.inl (SqL.of v3'),_,_,rfl,rfl,dx,_,e1',(by show 2<1000;decide),?_⟩;rw [Ge];have bt:Bt a vl H (upd (upd H vl (.lst (as.map V.ref++[.ref v]))) a (.ins CH dx (putF "kept_size" (.int ((h.size:Nat)+((h.kept u).length:Nat):Int)) (hf vl (h.size:Nat))))):=Bt.refl.updq.updm;have kp:=hH.kp bt;refine k _ bt ⟨dx,o2,?_,?_,?_⟩
  ·rw [eC,Lb.o9 W hu]
   rfl
  ·rw [eK (HA n1),eC,Gr]
   rfl
  ·refine wb.snoc ⟨e3.len,e3.nd,fun i b v' g1 g2=>?_⟩ W W' hu ol nv (hV.keep kp ol ((bt _ _ v1 va vvl).trans v1.symm))
   have z:=e3.at_ i b v' g1 g2;obtain ⟨_,_,_,_,_,_,_,w1,_⟩:=id z;obtain ⟨ba,bvl⟩:=hH.ver w1;exact z.keep kp ((bt _ _ w1 ba bvl).trans w1.symm)
section
variable {CV CH C:Gf} {H H':Hp} {ok:Gf->Prop} {a vl r s:Gf} {as:List Gf} {n:Nat} {h:His}
theorem EK (a:Gf) (n:Int):(rf a n).lookup ("kept":G9)=none:=mE _ _ (by decide +kernel) (by decide +kernel)
theorem fh.rdn (x:fh CV CH H ok a vl as h) (hR:gT C H r s n):r∉a::vl::as:=by
 obtain ⟨dx,hI⟩:=hR;obtain ⟨dh,nv,e1,e2,e3⟩:=id x;intro hm;rcases Gu.mp hm with e | hm
 ·rw [e,e1] at hI
  injection hI with hI
  injection hI with _ _ hI
  have:=mE s (n:Int) (m := "versions") (by decide +kernel) (by decide +kernel);rw [← hI,fX] at this;cases this
 rcases Gu.mp hm with e | hm
 ·rw [e,e2] at hI
  cases hI
 obtain ⟨i,v,_,_,dv,l,k,p,o,_,_,w,_⟩:=x.verM hm;rw [hI] at w;injection w with w
 injection w with _ _ w
 have:=EK s (n:Int);rw [w,kG] at this;cases this
theorem rd_kp (hR:gT C H r s n) (b:But r H H'):Kp ok H H':=by
 obtain ⟨dx,hI⟩:=hR;exact ⟨fun c xs _ e=>b c _ e (fG e hI (by intro z;cases z)),fun c xs e=>b c _ e (fG e hI (by intro z;cases z))⟩
theorem fh.rd (x:fh CV CH H ok a vl as h) (hR:gT C H r s n) (b:But r H H'):fh CV CH H' ok a vl as h:=x.keep (rd_kp hR b) fun c o hc e=>b c o e fun z=>x.rdn hR (z▸hc)
end
def BY (K:Gh) (C CF CV CH:Gf):Sp:=fun vs H Q E=>∃ (r s a vl:Gf) (as:List Gf) (h:His) (ok:Gf->Prop) (b:Gn) (n:Nat),vs=[.ref r,.ref a]/\fh CV CH H ok a vl as h/\gT C H r s n/\SqL K H s (b.map vb)/\s≠r/\n<=b.length/\b.length<=sizeLine /\
 (b.length<n+4->fY CF E 1 b.length r H)/\(n+4<=b.length->(1048576<h.size+ofLe (HU b n 4)->fY CF E 6 n r H)/\(h.size+ofLe (HU b n 4)<=1048576->(b.length<n+4+ofLe (HU b n 4)->fY CF E 1 b.length r H) /\
  (n+4+ofLe (HU b n 4)<=b.length->∀ (H':Hp) (l:Gf),But r H H'->gT C H' r s (n+4+ofLe (HU b n 4))->H l=none->H' l=some (.lst ((HU b (n+4) (ofLe (HU b n 4))).map vb))->Q (.ref l) H')))
def rY (CV CH:Gf):Sp:=fun vs H Q _=>∃ (ka a vl:Gf) (as:List Gf) (h:His) (ok:Gf->Prop) (z:Gn) (f:Option Nat),vs=[.ref ka,.ref a,optV f]/\fh CV CH H ok a vl as h/\WF h/\H ka=some (.lst (z.map vb))/\z.length<=1048576/\(∀ q,f=some q->q<h.length) /\
 (f=none->∀ (H':Hp) (l:Gf),eT H H'->H l=none->eS H' l (linesOf z)->Q (.ref l) H') /\
 (∀ q,f=some q->(∀ e,readPatch (linesOf (Gs h q)) z = .error e->∀ H':Hp,eT H H'->Q .non H')/\(∀ ps,readPatch (linesOf (Gs h q)) z = .ok ps->∀ (H':Hp) (l:Gf),eT H H'->H l=none->eS H' l (patched (linesOf (Gs h q)) 0 ps)->Q (.ref l) H'))
theorem zP:eM ["reader","history","place","size"] ["reader","history"] (defScope mB):=mkSc
theorem Fe {f C CF CV CH:Gf} {fd:GG} (F:Fun K "read_kept" "read_kept" mB f fd) (TH:TxH K mg) (T:TxR K mg C) (TV:TxV K mg CV CH) (FO:gU P w K mg base CF) (G4:Md P w K mg base 12 C "read_four" ["self"] (m7 K C CF)) (GR:Md P w K mg base 11 C "read_row" ["self","size"] (wB K C CF)) (GM:Md P w K mg base 1 CH "has_room_for" ["self","size"] (vp CV CH)):ff P w K mg base (CXF P w) 13 f fd ["reader","history"] (BY K C CF CV CH):=by
 refine okX (k:=12) F zP fun cdv A outer s H vs Q E hr h=>?_
 ·obtain ⟨r,s,a,vl,as,h,ok,b,n,rfl,hH,⟨dx,hI⟩,hS,nsr,hn,sz,k1,k2⟩:=h
  have nd:=zP.nd;have hr1:fi 1 _:=hr.mono (by decide);have hr2:fi 2 _:=hr.mono (by decide);have hr11:fi 11 _:=hr.mono (by decide);refine ⟨_,eE (eO (i:=2) nd U (Gy U) (eQ (pv 0) U))
   (eE (eO (i:=3) nd U (Gy U) (iF (pv 0) T.cl G4 hr fD))
   (eE (fF (vC (kj (f6 (pv 1) TV.clH GM hr1 fD (eA (pv 3) eF)))) (eI (hZ FO hr2 (hr.hd (by decide)) U jT (eA (fO TH.tooMuch U) (eA (pv 2) eF)))) eY)
   (eI (eP (f6 (pv 0) T.cl GR hr11 fD (eA (pv 3) eF)))))),?_⟩
  have rf4:∀ x:Int,(rf s x).lookup ("read_four":G9)=none:=fun x=>mE _ _ (by decide +kernel) (by decide +kernel)
  have rfR:∀ x:Int,(rf s x).lookup ("read_row":G9)=none:=fun x=>mE _ _ (by decide +kernel) (by decide +kernel)
  refine ⟨_,U,r,C,dx,_,_,U,hI,T.cl,T.nA,kh _ _,?_⟩;refine ⟨_,U,r,dx,_,U,hI,rf4 _,r,s,b,n,U,⟨dx,hI⟩,hS,nsr,hn,sz,k1,fun g H1 s1 hR1=>?_⟩
  obtain ⟨k3,k4⟩:=k2 g;generalize ofLe (HU b n 4)=x at k3 k4 ⊢;have hH1:=hH.rd (r:=r) ⟨dx,hI⟩ s1;obtain ⟨dh,_,h1,_⟩:=id hH1;refine ⟨_,U,a,dh,_,U,h1,pO _ _ (by decide +kernel) (by decide +kernel),_,U,a,vl,as,h,ok,x,U,hH1,_,U,?_⟩;by_cases q:h.size+x<=1048576
  ·rw [Gb q]
   refine (F9 (by decide)).mpr ?_;obtain ⟨k5,k6⟩:=k4 q;obtain ⟨dx1,hI1⟩:=id hR1;refine ⟨_,U,r,dx1,_,U,hI1,rfR _,_,U,r,s,b,n+4,x,U,hR1,But.seq s1 hS nsr,nsr,g,sz,fun q2=>(k5 q2).of s1,fun q2 H2 l s2 hR2 nl hl=>?_⟩
   exact k6 q2 H2 l (s1.trans s2) hR2 (pW s1 hR1 nl) hl
  ·rw [Gc q]
   refine (Ga U).mpr ?_;exact ⟨_,U,iW ((k3 (by omega)).of s1).to⟩
theorem up:eM ["kept","history","first_parent","parent_lines","patch"] ["kept","history","first_parent"] (defScope jE):=mkSc
theorem A7 {f CF CV CH:Gf} {fd:GG} (F:Fun K "lines_of_kept" "lines_of_kept" jE f fd) (TV:TxV K mg CV CH) (FO:gU P w K mg base CF) (GS:Fn P w K mg base 11 "split_lines" ["row"] (oY K)) (GR:Fn P w K mg base 14 "read_patch" ["row","old"] (mz K CF)) (GP:Fn P w K mg base 11 "patched" ["old","patch"] (qg K)):ff P w K mg base (CXF P w) 15 f fd ["kept","history","first_parent"] (rY CV CH):=by
 refine okN (k:=14) F up fun cdv A outer s H vs Q E hr h=>?_
 ·obtain ⟨ka,a,vl,as,h,ok,z,f,rfl,hH,W,hk,kz,hf,k1,k2⟩:=h
  have nd:=up.nd;have hr11:fi 11 _:=hr.mono (by decide);obtain ⟨fI,fdI,XC,_,_⟩:=FO.ex;obtain ⟨fR,fdR,m1,m2,m3,m4⟩:=GR.ex;refine ⟨_,eE (fF (gP (jI (pv 2))) (eI (eP (eV GS hr11 U eG (eA (pv 0) eF)))) eY)
   (eE (eO (i:=3) nd U (Gy U) (eQ (fM fm (eQ (pv 1) U) (pv 2) (fun _ _=>U)) U))
   (eE (ps_try XC U FO.at_ m4 hr U m1 m2 m3 (eA (pv 0) (eA (pv 3) eF)) nd (i:=4) U (Gy U) (fun ev=>eI (eP mJ)) U U U)
   (eI (eP (eV GP hr11 U eG (eA (pv 3) (eA (pv 4) eF))))))),?_⟩
  have szl:sizeLine=16777216:=Hj;cases f with
  | none =>
   refine ⟨_,U,_,U,(Ga U).mpr ?_⟩;exact ⟨_,U,ka,z,U,SqL.of hk,by omega,k1 U⟩
  | some f0 =>
   have hq:=hf f0 rfl;obtain ⟨k3,k4⟩:=k2 f0 rfl;have hv:h[f0]?=some h[f0]:=Gk hq;obtain ⟨b,hb,dv,lv,kv,pv',ov,_,_,v1,v2,_⟩:=hH.verI hv;obtain ⟨dh,nv,h1,h2,h3⟩:=id hH;have tx:Gs h f0=h[f0].text:=by
    unfold Gs;rw [hv];rfl
   have at_:atI (as.map V.ref) (f0:Nat)=some (V.ref b):=gE (by rw [Hh,hb];rfl);have ht0:=fL (W f0 _ hv).2.2;rw [tx] at k3 k4;refine ⟨_,U,_,U,(F9 (by simp [optV])).mpr ?_⟩;refine ⟨_,U,a,CH,dh,_,_,U,h1,TV.clH,TV.nV,fX _ _,_,U,vl,_,_,_,U,U,SqL.of h2,at_,b,CV,dv,_,_,U,v1,TV.clV,TV.nL,jS _ _ _ _ _ _,?_⟩;refine ⟨_,U,_,U,ka,lv,z,linesOf h[f0].text,U,hk,by omega,v2,Lb.gp _,fun e he=>?_,fun ps hps H1 q s1 nq hq'=>?_⟩
   ·intro H' dx s' hd
    exact ⟨U,dx,U,fun ea nea=>k3 e he _ (s'.new nea)⟩
   obtain ⟨r1,r2,r3⟩:=Lb.lW hps;have pl:=lZ r1 (G5 _);have zl:(ps.flatMap encP).length<=z.length:=by
    rw [← r2,Lb.gk,Gi,Gi];omega
   exact ⟨_,U,_,U,lv,q,_,ps,U,v2.same s1,hq',by omega,fun H2 l s2 nl hl=>k4 ps hps H2 l (s1.trans s2) (s1.free nl) hl⟩
def tZ (K:Gh) (C CF CV CH:Gf):Sp:=fun vs H Q E=>∃ (r s a vl:Gf) (as:List Gf) (b:Gn) (h:His) (n:Nat) (ok:Gf->Prop),vs=[.ref r,.ref a]/\gT C H r s n/\SqL K H s (b.map vb)/\s≠r/\n<=b.length/\b.length<=sizeLine/\fh CV CH H ok a vl as h/\WF h /\
 (∀ e,oneVersion b n h.size h = .error e->fY CF E e.kind e.place r H)/\(∀ x,oneVersion b n h.size h = .ok x->∀ (H':Hp) (v l:Gf),But r H H'->gT C H' r s x.2.1->H v=none->H l=none->ou CV H' (fun b=>H b=none) v l h x.1->Q (.ref v) H')
theorem yE {CV CH:Gf} {H:Hp} {Q:VK} {E:XK} {ka a vl:Gf} {as:List Gf} {h:His} {ok:Gf->Prop} {z:Gn} {x:Nat} (w:Option Nat) (hH:fh CV CH H ok a vl as h) (W:WF h) (hk:H ka=some (.lst (z.map vb))) (kz:z.length<=1048576) (hx:∀ q,parentOf x=some q->q<h.length)
  (k1:keptText h x z=none->∀ H':Hp,eT H H'->Q .non H')
  (k2:∀ (H':Hp) (l:Gf) (ls:List Gn),eT H H'->H l=none->eS H' l ls->fj ls->ls.length<=sizeLine->(isText (joinedL ls)=false->keptText h x z=none)->(isText (joinedL ls)=true->keptText h x z=if Ir h ⟨parentOf x,w,joinedL ls⟩=z then some (joinedL ls) else none)->Q (.ref l) H') :
  rY CV CH [.ref ka,.ref a,optV (parentOf x)] H Q E:=by
 have szl:sizeLine=16777216:=Hj;refine ⟨ka,a,vl,as,h,ok,z,parentOf x,U,hH,W,hk,kz,hx,fun e H' l s nl hl=>?_,fun q e=>⟨fun er he H' s=>k1 ?_ H' s,fun ps hps H' l s nl hl=>?_⟩⟩
 ·have kt:keptText h x z=(some z).filter isText:=by unfold keptText;rw [e]
  have ll:=xo z;refine k2 H' l _ s nl hl (Lb.gp z) (by omega) (fun c=>?_) (fun c=>?_)
  ·rw [Lb.fK] at c
   rw [kt,Jv,F9 (by rw [c];exact GI)]
  ·rw [Lb.fK] at c ⊢
   have kk:Ir h ⟨parentOf x,w,z⟩=z:=by rw [e];rfl
   rw [kt,Jv,Ga c,Ga kk]
 ·unfold keptText byPatch
  rw [e];simp only;rw [he];rfl
 ·have hq:=hx q e
  have kt:keptText h x z=(byPatch (Gs h q) z).filter isText:=by unfold keptText;rw [e]
  have bp:byPatch (Gs h q) z=if isText (joinedL (patched (linesOf (Gs h q)) 0 ps))=true/\patchOf (Gs h q) (joinedL (patched (linesOf (Gs h q)) 0 ps))=z then some (joinedL (patched (linesOf (Gs h q)) 0 ps)) else none:=by
   unfold byPatch;rw [hps]
  obtain ⟨r1,r2,r3⟩:=Lb.lW hps;have pl:=lZ r1 (G5 _);have zl:(ps.flatMap encP).length<=z.length:=by
   rw [← r2,Lb.gk,Gi,Gi];omega
  have tx:(linesOf (Gs h q)).length<=2048:=by
   have hv:h[q]?=some h[q]:=Gk hq;have tx:Gs h q=h[q].text:=by
    unfold Gs;rw [hv];rfl
   rw [tx];exact fL (W q _ hv).2.2
  refine k2 H' l _ s nl hl (r1.lines (Lb.gp _)) (by omega) (fun c=>?_) (fun c=>?_)
  ·rw [kt,bp,F9 (fun y=>by rw [c] at y;exact GI y.1)]
   rfl
  ·have kk:Ir h ⟨parentOf x,w,joinedL (patched (linesOf (Gs h q)) 0 ps)⟩=patchOf (Gs h q) (joinedL (patched (linesOf (Gs h q)) 0 ps)):=by rw [e];rfl
   rw [kt,bp,kk];by_cases g:patchOf (Gs h q) (joinedL (patched (linesOf (Gs h q)) 0 ps))=z
   ·rw [Ga ⟨c,g⟩,Ga g,Jv,Ga c]
   ·rw [F9 (fun y=>g y.2),F9 g]
    rfl
theorem zI:eM ["reader","history","count","first_parent","second_parent","place","kept","lines","version"] ["reader","history"] (defScope jW):=mkSc
theorem E3 {f C CF CV CH:Gf} {fd:GG} (F:Fun K "read_version" "read_version" jW f fd) (TH:TxH K mg) (T:TxR K mg C) (TV:TxV K mg CV CH) (FO:gU P w K mg base CF) (G1:Fn P w K mg base 13 "read_parent" ["reader","count"] (rX K C CF)) (G2:Fn P w K mg base 14 "read_second_parent" ["reader","count","first_parent"] (uc K C CF))
  (GK:Fn P w K mg base 13 "read_kept" ["reader","history"] (BY K C CF CV CH)) (GO:Fn P w K mg base 15 "lines_of_kept" ["kept","history","first_parent"] (rY CV CH)) (GL:Fn P w K mg base 11 "are_too_large" ["lines"] (wD K)) (GM:Md P w K mg base 16 CH "make_version" ["self","first_parent","second_parent","lines"] (vt CV CH)) :
  ff P w K mg base (CXF P w) 17 f fd ["reader","history"] (tZ K C CF CV CH):=by
 refine okX (k:=16) F zI fun cdv A outer s H vs Q E hr h=>?_
 ·obtain ⟨r,s,a,vl,as,b,h,n,ok,rfl,hR,hS,nsr,hn,sz,hH,W,k1,k2⟩:=h
  have nd:=zI.nd;have hr2:fi 2 _:=hr.mono (by decide);have hr11:fi 11 _:=hr.mono (by decide);have hr13:fi 13 _:=hr.mono (by decide);have hr14:fi 14 _:=hr.mono (by decide);have hr15:fi 15 _:=hr.mono (by decide);refine ⟨_,eE (eO (i:=2) nd U (Gy U) (eU eL U TH.len Gz (eA (eQ (pv 1) U) eF)))
   (eE (eO (i:=3) nd U (Gy U) (eV G1 hr13 U fD (eA (pv 0) (eA (pv 2) eF))))
   (eE (eO (i:=4) nd U (Gy U) (eV G2 hr14 U fD (eA (pv 0) (eA (pv 2) (eA (pv 3) eF)))))
   (eE (eO (i:=5) nd U (Gy U) (eQ (pv 0) U))
   (eE (eO (i:=6) nd U (Gy U) (eV GK hr13 U fD (eA (pv 0) (eA (pv 1) eF))))
   (eE (eO (i:=7) nd U (Gy U) (eV GO hr15 U fD (eA (pv 6) (eA (pv 1) (eA (pv 3) eF)))))
   (eE (fF (PW.pt (wX (gP (jI (pv 7))) (sD (kj (eV GL hr11 U fD (eA (pv 7) eF)))))) (eI (hZ FO hr2 (hr.hd (by decide)) U jT (eA (fO TH.wrongKept U) (eA (pv 5) eF)))) eY)
   (eE (eO (i:=8) nd U (Gy U) (f6 (pv 1) TV.clH GM hr fD (eA (pv 3) (eA (pv 4) (eA (pv 7) eF)))))
   (eE (fF (eX (C3 hr.units) (eQ (pv 8) U) (pv 6) (fb _)) (eI (hZ FO hr2 (hr.hd (by decide)) U jT (eA (fO TH.wrongKept U) (eA (pv 5) eF)))) eY)
   (eI (eP (pv 8))))))))))),?_⟩
  obtain ⟨dh,ov,h1,h2,h3⟩:=id hH;have al:(as.map V.ref).length=h.length:=by rw [Ge,h3.len]
  refine ⟨_,U,a,CH,dh,_,_,U,h1,TV.clH,TV.nV,fX _ _,vl,_,U,.inl (SqL.of h2),?_⟩;rw [al];have one:oneVersion b n h.size h=_:=rfl;conv at one=>rhs;unfold Lb.oneVersion
  refine ⟨_,U,_,U,r,s,b,n,h.length,U,hR,hS,nsr,hn,sz,fun g=>?_,fun g=>⟨fun c=>?_,fun c H1 b1 hR1=>?_⟩⟩
  ·rw [Ga g] at one
   exact k1 _ one
  ·rw [F9 (by omega),Ga c] at one
   exact k1 _ one
  rw [F9 (show ¬ b.length<n+4 by omega),F9 c] at one;refine ⟨_,U,_,U,_,U,r,s,b,n+4,h.length,ofLe (HU b n 4),U,hR1,But.seq b1 hS nsr,nsr,g,sz,fun g2=>?_,fun g2=>⟨fun c2=>?_,fun c2 H2 b2 hR2=>?_⟩⟩
  ·rw [Ga g2] at one
   exact (k1 _ one).of b1
  ·rw [F9 (by omega),Ga c2] at one
   exact (k1 _ one).of b1
  rw [F9 (show ¬ b.length<n+8 by omega),F9 c2] at one;have b02:=b1.trans b2;obtain ⟨d2,i2⟩:=id hR2;have hH2:=hH.rd hR b02;refine ⟨_,U,r,C,d2,_,_,U,i2,T.cl,T.nA,kh _ _,?_⟩;refine ⟨_,U,_,U,r,s,a,vl,as,h,ok,b,n+8,U,hH2,hR2,But.seq b02 hS nsr,nsr,g2,sz,fun g3=>?_,fun g3=>⟨fun c3=>?_,fun c3=>⟨fun g4=>?_,fun g4 H3 ka b3 hR3 nk hk=>?_⟩⟩⟩
  ·rw [Ga g3] at one
   exact (k1 _ one).of b02
  ·rw [F9 (show ¬ b.length<n+12 by omega),Ga (show KEPT<_ from c3)] at one
   exact (k1 _ one).of b02
  ·rw [F9 (show ¬ b.length<n+12 by omega),F9 (show ¬ KEPT<_ by unfold KEPT;omega),Ga g4] at one
   exact (k1 _ one).of b02
  rw [F9 (show ¬ b.length<n+12 by omega),F9 (show ¬ KEPT<_ by unfold KEPT;omega),F9 (show ¬ b.length<n+12+ofLe (HU b (n+8) 4) by omega)] at one;have b03:=b02.trans b3;have zl:=Lb.gF b (n+12) _ g4;generalize hx:ofLe (HU b n 4)=x at one;generalize hy:ofLe (HU b (n+4) 4)=y at one;generalize hz:ofLe (HU b (n+8) 4)=z at one zl c3 g4 hR3 hk;generalize hp:HU b (n+12) z=pz at one zl hk;have bad:keptText h x pz=none->∀ H4,eT H3 H4->je CF E 5 ((n+8:Nat):Int) H4:=fun hn' H4 s34=>by
   rw [hn'] at one;exact ((k1 _ one).of (b03.trans s34.but)).to
  have zs:pz.length<=1048576:=by rw [zl];omega
  have hH3:=hH.rd hR b03;have hxl:∀ q,parentOf x=some q->q<h.length:=fun q hq=>by
   obtain ⟨a1,a2⟩:=Lb.kW hq;rw [hx] at c;subst a2;by_cases e:q<h.length
   ·exact e
   ·exact absurd ⟨a1,by omega⟩ c
  refine ⟨_,U,_,U,_,U,?_⟩;delta wv;refine yE (parentOf y) hH3 W hk zs hxl (fun kn H4 s4=>?_) (fun H4 l ls s4 nl hl Ls lz c1 c2'=>?_)
  ·exact ⟨_,U,_,U,(Ga U).mpr ((Ga U).mpr ⟨_,U,iW (bad kn H4 s4)⟩)⟩
  refine ⟨_,U,_,U,(F9 (by simp)).mpr ⟨_,U,l,ls,U,hl,Ls,lz,fun H5 s5=>⟨_,U,?_⟩⟩⟩
  have s45:=s4.trans s5;cases ht:isText (joinedL ls) with
  | false=>exact (Ga rfl).mpr ⟨_,rfl,iW (bad (c1 ht) H5 s45)⟩
  | true =>
   have c3':=c2' ht;refine (F9 (by decide)).mpr ?_;have hH5:=hH3.same s45;obtain ⟨dh5,_,h15,_⟩:=id hH5;have hl5:eS H5 l (linesOf (joinedL ls)):=by rw [Ls.uniq];exact hl.same s5
   refine ⟨_,U,a,dh5,_,U,h15,pO _ _ (by decide +kernel) (by decide +kernel),_,U,_,U,_,U,a,vl,as,h,ok,⟨parentOf x,parentOf y,joinedL ls⟩,l,U,hH5,W,hxl,ht,hl5,fun H6 v s6 nv hv=>?_⟩
   obtain ⟨dv,k',p',q1,q2,q3,q4,q5⟩:=id hv;have s36:=s45.trans s6;have hk6:=s36 _ _ hk;refine ⟨_,U,v,CV,dv,_,_,U,q2,TV.clV,TV.nK,kG _ _ _ _ _ _,_,U,dRow _,dRow _,vS q4,vS hk6,lJ _,lJ _,_,U,?_⟩;rw [At];by_cases ek:Ir h ⟨parentOf x,parentOf y,joinedL ls⟩=pz
   ·rw [Gb ek]
    refine (F9 (by decide)).mpr ⟨_,U,?_⟩;rw [Ga ek] at c3';rw [c3'] at one;have fr:∀ u,H3 u=none->H u=none:=fun u nu=>pW b03 hR3 nu
    exact k2 _ one H6 v l (b03.trans s36.but) (hR3.same s36) (fr _ (s45.free nv)) (fr _ nl) (hv.imp fun u _ nu=>fr _ (s45.free nu))
   ·rw [Gc ek]
    refine (Ga U).mpr ⟨_,U,iW (bad ?_ H6 s36)⟩;rw [c3',F9 ek]
def ub (K:Gh) (CF CV CH:Gf):Sp:=fun vs H Q E=>∃ (s:Gf) (b:Gn),vs=[.ref s]/\H s=some (.lst (b.map vb))/\b.length<=sizeLine /\
 (∀ e,readHistory b = .error e->je CF E e.kind e.place H)/\(∀ h,readHistory b = .ok h->∀ (H':Hp) (a vl:Gf) (as:List Gf),eT H H'->H a=none->H vl=none->(∀ x∈as,H x=none)->fh CV CH H' (fun b=>H b=none/\b≠vl) a vl as h->Q (.ref a) H')
theorem zM:eM ["row","reader","place","count","history"] ["row"] (defScope jX):=mkSc
theorem E8 {f C CF CV CH:Gf} {fd:GG} (F:Fun K "read_history" "read_history" jX f fd) (TH:TxH K mg) (T:TxR K mg C) (TV:TxV K mg CV CH) (FO:gU P w K mg base CF)
  (GC:Cl P w K mg base 1 C "Reader" ["self","row"] (vq K C)) (GD:Md P w K mg base 12 C "read_head" ["self","head"] (yf K C CF)) (G4:Md P w K mg base 12 C "read_four" ["self"] (m7 K C CF)) (GE:Md P w K mg base 11 C "read_end" ["self"] (B4 K C CF))
  (GH:Cl P w K mg base 1 CH "History" ["self"] (vw CH)) (GA:Md P w K mg base 1 CH "add_version" ["self","version"] (r9 CV CH)) (GR:Fn P w K mg base 17 "read_version" ["reader","history"] (tZ K C CF CV CH)) :
  ff P w K mg base (CXF P w) 18 f fd ["row"] (ub K CF CV CH):=by
 refine okX (k:=17) F zM fun cdv A outer s H vs Q E hr h=>?_
 ·obtain ⟨s,b,rfl,hS,sz,k1,k2⟩:=h
  have nd:=zM.nd;have hr1:fi 1 _:=hr.mono (by decide);have hr2:fi 2 _:=hr.mono (by decide);have hr11:fi 11 _:=hr.mono (by decide);have hr12:fi 12 _:=hr.mono (by decide);refine ⟨_,eE (eO (i:=1) nd U (Gy U) (uE GC hr2 U fD (eA (pv 0) eF)))
   (eE (fe (f6 (pv 1) T.cl GD hr12 fD (eA (Aa TH.hhead U) eF)))
   (eE (eO (i:=2) nd U (Gy U) (eQ (pv 1) U))
   (eE (eO (i:=3) nd U (Gy U) (iF (pv 1) T.cl G4 hr12 fD))
   (eE (fF (eX jg (pv 3) (fO TH.versions U) (fb _)) (eI (hZ FO hr2 (hr.hd (by decide)) U jT (eA (fO T.number U) (eA (pv 2) eF)))) eY)
   (eE (eO (i:=4) nd U (Gy U) (vH GH hr2 U fD))
   (eE (mF KI (eX qP (eU eL U T.len Gz (eA (eQ (pv 4) U) eF)) (pv 3) (fb _))
    (eI (fe (f6 (pv 4) TV.clH GA hr1 fD (eA (eV GR hr U fD (eA (pv 1) (eA (pv 4) eF))) eF)))))
   (eE (fe (iF (pv 1) T.cl GE hr11 fD))
   (eI (eP (pv 4)))))))))),?_⟩
  refine ⟨_,U,fun r dr nr ndr ner=>?_⟩
  refine ⟨r,dr,s,U,eC,fun H1 hR1 b1=>⟨U,?_⟩⟩
  have s1:eT H H1:=gX nr ndr b1;have rn:∀ {m:G9} (x:Int),¬ m = "at" -> ¬ m = "row" -> (rf s x).lookup m=none:=fun x h1 h2=>mE _ _ h1 h2
  obtain ⟨dx1,hI1⟩:=id hR1;have sr:s≠r:=eW hS nr;refine ⟨_,U,r,dx1,_,U,hI1,rn _ (by decide +kernel) (by decide +kernel),fun hd hhd=>?_⟩
  refine ⟨r,s,hd,b,Hw "SWVH",0,U,hR1,SqL.of (s1 _ _ hS),sr,G5 _,sz,hhd,fun e he=>?_,fun he H2 b2 hR2=>?_⟩
  ·rw [Ip] at he
   refine (k1 e ?_).b s1 nr;unfold readHistory;rw [he]
  rw [Ip] at he;have s2:=s1.butOf b2 nr;obtain ⟨dx2,hI2⟩:=id hR2;have ml:=Lb.sI _ _ _ he;have rp:readHistory b=(if b.length<8 then .error ⟨1,b.length⟩ else if K5<ofLe (HU b 4 4) then .error ⟨3,4⟩ else match readVersions b (ofLe (HU b 4 4)) 8 0 [] with
   | .error e => .error e
   | .ok x=>if x.2<b.length then .error ⟨4,x.2⟩ else .ok x.1):=by
   unfold readHistory;rw [he];rfl
  have al:(Hw "SWVH").length=4:=rfl;rw [al] at ml;refine ⟨_,U,r,C,dx2,_,_,U,hI2,T.cl,T.nA,kh _ _,?_⟩;refine ⟨_,U,r,dx2,_,U,hI2,rn _ (by decide +kernel) (by decide +kernel),r,s,b,4,U,hR2,SqL.of (s2 _ _ hS),sr,ml,sz,fun g=>?_,fun g H3 b3 hR3=>?_⟩
  ·rw [Ga (by omega)] at rp
   exact (k1 _ rp).b s2 nr
  rw [F9 (by omega)] at rp;have s3:=s2.butOf b3 nr;generalize ofLe (HU b 4 4)=cnt at rp ⊢;refine ⟨_,U,_,_,U,U,_,U,?_⟩;refine gh (fun gc=>?_) (fun gc=>?_)
  ·have gc:(64:Int)<(cnt:Nat):=Gd gc
   rw [Ga (show K5<cnt by unfold K5;omega)] at rp;exact ⟨_,U,iW ((k1 _ rp).of s3)⟩
  have gc:¬ (64:Int)<(cnt:Nat):=fun z=>gc (Gb z)
  rw [F9 (show ¬ K5<cnt by unfold K5;omega)] at rp;refine fun a da na nda nea=>⟨a,da,U,eC,fun H4 vl nvl ha hvl b4=>⟨U,?_⟩⟩
  have s34:eT H3 H4:=gX na nda b4;have s4:=s3.trans s34;have hR4:=hR3.same s34;have ra:r≠a:=fun z=>by
   obtain ⟨d,hr'⟩:=hR3;rw [← z,hr'] at na;cases na
  have na0:H a=none:=s3.free na;have nvl0:H vl=none:=by
   by_cases h:vl=a
   ·rw [h];exact na0
   ·by_cases h2:vl=da
    ·rw [h2];exact s3.free nda
    ·rw [eK h,eK h2] at nvl
     exact s3.free nvl
  let Inv:Nat->L2.St->Hp->Prop:=fun i σ H'=>∃ (n:Nat) (h:His) (as:List Gf),σ=[some (.ref s),some (.ref r),some (.int (4:Nat)),some (.int cnt),some (.ref a)]/\eT H H'/\gT C H' r s n/\n<=b.length/\fh CV CH H' (fun b=>H b=none/\b≠vl) a vl as h/\(∀ x∈as,H x=none)/\WF h/\h.length=i/\i<=cnt/\readVersions b cnt 8 0 []=readVersions b (cnt-i) n h.size h
  refine ⟨fun m σ H'=>∃ i,m=cnt-i/\Inv i σ H',⟨cnt,0,rfl,8,[],[],rfl,s4,hR4,g,⟨da,fun z=>z.2 rfl,ha,hvl,wb.nil⟩,fun x hx=>by simp at hx,WF.nil,rfl,G5 _,rfl⟩,?_⟩
  rintro m σ H5 ⟨i,rfl,n,h,as,rfl,s5,hR5,hn,hH5,fas,W,hl,ic,er⟩
  obtain ⟨dh,ov,h1,h2,h3⟩:=id hH5;have ul:(as.map V.ref).length=i:=by rw [Ge,h3.len,hl]
  refine ⟨_,U,a,CH,dh,_,_,U,h1,TV.clH,TV.nV,fX _ _,vl,_,U,.inl (SqL.of h2),_,U,_,_,U,U,_,U,?_⟩;rw [ul];refine gh (fun gi=>?_) (fun gi=>?_)
  ·have gi:(i:Int)<(cnt:Nat):=Gd gi
   have gi:i<cnt:=by omega
   refine ⟨Inv (i+1),fun σ' H' h=>⟨cnt-(i+1),by omega,i+1,U,h⟩,?_⟩
   have em:cnt-i=(cnt-(i+1))+1:=by omega
   rw [em,Lb.oR] at er;refine ⟨_,U,a,dh,_,U,h1,pO _ _ (by decide +kernel) (by decide +kernel),?_⟩;refine ⟨_,U,_,U,r,s,a,vl,as,b,h,n,_,U,hR5,SqL.of (s5 _ _ hS),sr,hn,sz,hH5,W,fun e he=>?_,fun x hx H6 v l b6 hR6 nv nl hv=>?_⟩
   ·rw [he] at er
    rw [er] at rp;exact (k1 _ rp).b s5 nr
   ·rw [hx] at er
    obtain ⟨o1,o2,o3,o4,o5,o6,o7,o8⟩:=Lb.om hx;have s6:=s5.butOf b6 nr;have hH6:=hH5.rd hR5 b6;have W':=W.snoc o1 o2 o3;have fr:∀ u,H5 u=none->H u=none/\u≠vl:=fun u nu=>⟨s5.free nu,fun z=>by rw [z,h2] at nu;cases nu⟩
    have hv':=hv.imp (ok':=fun b=>H b=none/\b≠vl) (fun u _ nu=>fr u nu)
    refine ⟨a,vl,v,l,as,h,x.1,_,U,hH6,W,W',o1,hv',fr l nl,(fun hm=>hH5.there (by simp [hm]) nv),by omega,fun H7 b7 hH7=>?_⟩
    have rvl:r≠vl:=HA (hR5.ne h2);refine ⟨x.2.1,h++[x.1],as++[v],U,s6.btOf b7 na0 nvl0,?_,o8,hH7,?_,W',?_,by omega,?_⟩
    ·obtain ⟨d,hr'⟩:=hR6
     exact ⟨d,b7 _ _ hr' ra rvl⟩
    ·intro y hy
     rcases HS.mp hy with hy | hy
     ·exact fas y hy
     ·rw [G7.mp hy]
      exact s5.free nv
    ·rw [Gi,hl]
     rfl
    ·rw [Lb.o9 W o1,← o4]
     exact er
  ·have gi:¬ (i:Int)<(cnt:Nat):=fun q=>gi (Gb q)
   have:i=cnt:=by omega
   subst this;rw [Jz] at er;have er:readVersions b i 8 0 [] = .ok (h,n):=er;rw [er] at rp;obtain ⟨dx5,hI5⟩:=id hR5;have rp:readHistory b=(if n<b.length then .error ⟨4,n⟩ else .ok h):=rp
   refine ⟨_,U,r,dx5,_,U,hI5,rn _ (by decide +kernel) (by decide +kernel),r,s,b,n,U,hR5,SqL.of (s5 _ _ hS),fun q=>?_,fun q=>?_⟩
   ·rw [Ga q] at rp
    exact (k1 _ rp).of s5
   ·rw [F9 (by omega)] at rp
    exact ⟨_,U,k2 _ rp H5 a vl as s5 na0 nvl0 fas hH5⟩
def nums (n:Int) (xs ys:List Int) (k p:Int):List Int:=([n,((xs.length:Nat):Int)]++xs)++(((ys.length:Nat):Int)::ys)++[k,p]
theorem pB (a:KS):numbersOf a=nums a.ret (a.bytes.map fun (c:UInt8)=>(c.toNat:Int)) (a.nums.map fun (n:Nat)=>(n:Int)) (match a.fault with | some e=>(e.kind:Int) | none=>0) (match a.fault with | some e=>(e.place:Int) | none=>0):=by
 obtain ⟨r,b,ns,f⟩:=a;unfold VersionNeutral.numbersOf nums;cases f <;> simp
structure TxS (K:Gh) (mg:G9->Option Gg):Prop where
 len:mg "len"=none
 last:fW mg "LAST_HISTORY" 3
 mostP:fW mg "MOST_PATCH_BYTES" 131072
 mostH:fW mg "MOST_HISTORY_BYTES" 1200000
 range:fW mg "OUT_OF_RANGE" (-1)
 large:fW mg "TOO_LARGE" (-2)
 faulty:fW mg "FAULTY" (-6)
 max:mg "max"=none
 parents:fW mg "WRONG_PARENTS" (-1)
 notBegun:fW mg "NOT_BEGUN" (-3)
 noRoom:fW mg "NO_ROOM" (-3)
 noBase:fW mg "NO_BASE" (-3)
 noVersion:fW mg "NO_VERSION" (-4)
def qj:Sp:=fun vs H Q _=>∃ (n k p:Int) (r l:Gf) (xs ys:List Int),vs=[.int n,.ref r,.ref l,.int k,.int p]/\H r=some (.lst (xs.map V.int))/\H l=some (.lst (ys.map V.int))/\xs.length+ys.length+5<=sizeLine/\∀ (H':Hp) (q:Gf),eT H H'->H q=none->H' q=some (.lst ((nums n xs ys k p).map V.int))->Q (.ref q) H'
def qJ:Sp:=fun vs H Q _=>∃ n:Int,vs=[.int n]/\∀ (H':Hp) (q:Gf),eT H H'->H q=none->H' q=some (.lst ((numbersOf (says n)).map V.int))->Q (.ref q) H'
def rT:Sp:=fun vs H Q _=>∃ (r:Gf) (b:Gn),vs=[.ref r]/\H r=some (.lst (b.map vb))/\b.length+5<=sizeLine/\∀ (H':Hp) (q:Gf),eT H H'->H q=none->H' q=some (.lst ((numbersOf (gives b)).map V.int))->Q (.ref q) H'
def qX:Sp:=fun vs H Q _=>∃ (n:Int) (l:Gf) (ys:List Nat),vs=[.int n,.ref l]/\H l=some (.lst (ys.map fun y=>V.int (y:Nat)))/\ys.length+5<=sizeLine/\∀ (H':Hp) (q:Gf),eT H H'->H q=none->H' q=some (.lst ((numbersOf (tells n ys)).map V.int))->Q (.ref q) H'
def rZ (C:Gf):Sp:=fun vs H Q _=>∃ (e dx:Gf) (f:Sw.Fault),vs=[.ref e]/\H e=some (ot C e dx)/\H dx=some (qa dx (xf f.kind f.place))/\∀ (H':Hp) (q:Gf),eT H H'->H q=none->H' q=some (.lst ((numbersOf (wrong f)).map V.int))->Q (.ref q) H'
theorem EE:eM ["number","row","listed","kind","place"] ["number","row","listed","kind","place"] (defScope kP):=mkSc
theorem Fh {f:Gf} {fd:GG} (F:Fun K "full_answer" "full_answer" kP f fd) (T:TxS K mg):ff P w K mg base (CXF P w) 1 f fd ["number","row","listed","kind","place"] qj:=by
 refine okN (k:=0) F EE fun cdv A outer s H vs Q E hr h=>?_
 ·obtain ⟨n,k,p,r,l,xs,ys,rfl,hx,hy,sz,q⟩:=h
  refine ⟨_,eI (eP (fA l9 (fA l9 (fA l9 (fA l9 (fP (eA (pv 0) (eA (eU eL U T.len Gz (eA (pv 1) eF)) eF))) (pv 1)) (fP (eA (eU eL U T.len Gz (eA (pv 2) eF)) eF))) (pv 2)) (fP (eA (pv 3) (eA (pv 4) eF))))),?_⟩;refine ⟨_,rfl,_,rfl,r,_,rfl,.inl (SqL.of hx),(by show 2<=sizeLine;decide),fun l1 n1=>?_⟩
  have t1:=L2.upN (o := .lst [.int n,.int ((xs.map V.int).length:Nat)]) n1;refine ⟨_,rfl,l1,r,_,_,rfl,rfl,eC,t1 _ _ hx,(by rw [Ge];show 2+_<=_;omega),fun l2 n2=>?_⟩
  have t2:=t1.new (o := .lst ([.int n,.int ((xs.map V.int).length:Nat)]++xs.map V.int)) n2;have e2:upd (upd H l1 (.lst [.int n,.int ((xs.map V.int).length:Nat)])) l2 (.lst ([.int n,.int ((xs.map V.int).length:Nat)]++xs.map V.int)) l2=_:=eC;generalize upd (upd H l1 (.lst [.int n,.int ((xs.map V.int).length:Nat)])) l2 (.lst ([.int n,.int ((xs.map V.int).length:Nat)]++xs.map V.int))=H2 at t2 e2 ⊢;refine ⟨_,rfl,l,_,rfl,.inl (SqL.of (t2 _ _ hy)),(by show 1<=sizeLine;decide),fun l3 n3=>?_⟩
  refine ⟨l2,l3,_,_,U,U,L2.upN n3 _ _ e2,eC,(by simp only [Gi,Ge,GQ,Ja];omega),fun l4 n4=>?_⟩
  have t4:=(t2.new (o := .lst [.int ((ys.map V.int).length:Nat)]) n3).new (o := .lst (([.int n,.int ((xs.map V.int).length:Nat)]++xs.map V.int)++[.int ((ys.map V.int).length:Nat)])) n4;have e4:upd (upd H2 l3 (.lst [.int ((ys.map V.int).length:Nat)])) l4 (.lst (([.int n,.int ((xs.map V.int).length:Nat)]++xs.map V.int)++[.int ((ys.map V.int).length:Nat)])) l4=_:=eC;generalize upd (upd H2 l3 (.lst [.int ((ys.map V.int).length:Nat)])) l4 (.lst (([.int n,.int ((xs.map V.int).length:Nat)]++xs.map V.int)++[.int ((ys.map V.int).length:Nat)]))=H4 at t4 e4 ⊢;refine ⟨_,U,l4,l,_,_,U,U,e4,t4 _ _ hy,(by simp only [Gi,Ge,GQ,Ja];omega),fun l5 n5=>?_⟩
  have t5:=t4.new (o := .lst ((([.int n,.int ((xs.map V.int).length:Nat)]++xs.map V.int)++[.int ((ys.map V.int).length:Nat)])++ys.map V.int)) n5;have e5:upd H4 l5 (.lst ((([.int n,.int ((xs.map V.int).length:Nat)]++xs.map V.int)++[.int ((ys.map V.int).length:Nat)])++ys.map V.int)) l5=_:=eC;generalize upd H4 l5 (.lst ((([.int n,.int ((xs.map V.int).length:Nat)]++xs.map V.int)++[.int ((ys.map V.int).length:Nat)])++ys.map V.int))=H5 at t5 e5 ⊢;refine ⟨_,rfl,_,rfl,(by show 2<=sizeLine;decide),fun l6 n6=>?_⟩
  refine ⟨l5,l6,_,_,U,U,L2.upN n6 _ _ e5,eC,(by simp only [Gi,Ge,GQ,Ja];omega),fun l7 n7=>?_⟩
  refine q _ l7 ((t5.new n6).new n7) ?_ ?_
  ·exact (t5.new (o := .lst [.int k,.int p]) n6).free n7
  ·rw [eC]
   unfold nums;simp only [Gr,Hs,KL,Ge,Hx,List.cons_append,List.nil_append]
theorem sc_num:eM ["number"] ["number"] (defScope jD):=mkSc
theorem ok_num {f:Gf} {fd:GG} (F:Fun K "number_answer" "number_answer" jD f fd) (G:Fn P w K mg base 1 "full_answer" ["number","row","listed","kind","place"] qj):ff P w K mg base (CXF P w) 2 f fd ["number"] qJ:=by
 refine okN (k:=1) F sc_num fun cdv A outer s H vs Q E hr h=>?_
 ·obtain ⟨n,rfl,q⟩:=h
  refine ⟨_,eI (eP (eV G hr U eG (eA (pv 0) (eA (fP eF) (eA (fP eF) (eA eN (eA eN eF))))))),?_⟩;refine ⟨_,U,G5 _,fun a na=>⟨G5 _,fun b nb=>?_⟩⟩
  have s1:=(L2.upN (o := .lst []) na);have s2:=s1.new (o := .lst []) nb;refine ⟨n,0,0,a,b,[],[],rfl,L2.upN nb _ _ eC,eC,(by show 5<=sizeLine;decide),fun H' c s3 nc hc=>q H' c (s2.trans s3) (s2.free nc) ?_⟩
  rw [hc,pB];rfl
theorem EA:eM ["row"] ["row"] (defScope lM):=mkSc
theorem E7 {f:Gf} {fd:GG} (F:Fun K "row_answer" "row_answer" lM f fd) (T:TxS K mg) (G:Fn P w K mg base 1 "full_answer" ["number","row","listed","kind","place"] qj):ff P w K mg base (CXF P w) 2 f fd ["row"] rT:=by
 refine okN (k:=1) F EA fun cdv A outer s H vs Q E hr h=>?_
 ·obtain ⟨r,b,rfl,hb,sz,q⟩:=h
  refine ⟨_,eI (eP (eV G hr U eG (eA (eU eL U T.len Gz (eA (pv 0) eF)) (eA (pv 0) (eA (fP eF) (eA eN (eA eN eF))))))),?_⟩;refine ⟨_,U,r,_,U,.inl (SqL.of hb),_,U,G5 _,fun l nl=>?_⟩
  have s1:=(L2.upN (o := .lst []) nl);refine ⟨_,0,0,r,l,b.map fun c=>(c.toNat:Int),[],rfl,?_,eC,(by rw [Ge];show _+0+5<=_;omega),fun H' c s3 nc hc=>q H' c (s1.trans s3) (s1.free nc) ?_⟩
  ·rw [← vi]
   exact s1 _ _ hb
  ·rw [hc,pB,Ge]
   rfl
theorem Cm:eM ["number","listed"] ["number","listed"] (defScope kO):=mkSc
theorem Dk {f:Gf} {fd:GG} (F:Fun K "list_answer" "list_answer" kO f fd) (G:Fn P w K mg base 1 "full_answer" ["number","row","listed","kind","place"] qj):ff P w K mg base (CXF P w) 2 f fd ["number","listed"] qX:=by
 refine okN (k:=1) F Cm fun cdv A outer s H vs Q E hr h=>?_
 ·obtain ⟨n,l,ys,rfl,hl,sz,q⟩:=h
  refine ⟨_,eI (eP (eV G hr U eG (eA (pv 0) (eA (fP eF) (eA (pv 1) (eA eN (eA eN eF))))))),?_⟩;refine ⟨_,U,G5 _,fun a na=>⟨_,U,?_⟩⟩
  have s1:=(L2.upN (o := .lst []) na);refine ⟨n,0,0,a,l,[],ys.map fun y=>((y:Nat):Int),rfl,eC,?_,(by rw [Ge];show 0+_+5<=_;omega),fun H' c s3 nc hc=>q H' c (s1.trans s3) (s1.free nc) ?_⟩
  ·rw [Ic]
   exact s1 _ _ hl
  ·rw [hc,pB]
   rfl
theorem AQ:eM ["fault"] ["fault"] (defScope j7):=mkSc
theorem Bb {f CF:Gf} {fd:GG} (F:Fun K "fault_answer" "fault_answer" j7 f fd) (T:TxS K mg) (FO:gU P w K mg base CF) (G:Fn P w K mg base 1 "full_answer" ["number","row","listed","kind","place"] qj):ff P w K mg base (CXF P w) 2 f fd ["fault"] (rZ CF):=by
 refine okN (k:=1) F AQ fun cdv A outer s H vs Q E hr h=>?_
 ·obtain ⟨e,dx,f,rfl,he,hd,q⟩:=h
  obtain ⟨fI,fdI,XC,_,_⟩:=FO.ex;refine ⟨_,eI (eP (eV G hr U eG (eA (fO T.faulty U) (eA (fP eF) (eA (fP eF) (eA (FX XC (by decide +kernel) (pv 0) U) (eA (FX XC (by decide +kernel) (pv 0) U) eF))))))),?_⟩;refine ⟨G5 _,fun a na=>⟨G5 _,fun b nb=>?_⟩⟩
  have s1:=(L2.upN (o := .lst []) na);have s2:=s1.new (o := .lst []) nb;refine ⟨_,U,e,dx,_,_,U,s2 _ _ he,s2 _ _ hd,U,_,U,e,dx,_,_,U,s2 _ _ he,s2 _ _ hd,U,?_⟩;refine ⟨-6,_,_,a,b,[],[],rfl,L2.upN nb _ _ eC,eC,(by show 5<=sizeLine;decide),fun H' c s3 nc hc=>q H' c (s2.trans s3) (s2.free nc) ?_⟩
  rw [hc,pB];rfl
def lI (H:Hp) (q:Gf) (a:KS):Prop:=H q=some (.lst ((numbersOf a).map V.int))
def rJ (a b:Gn):KS:=let l:=runsOf (linesOf a) (linesOf b);tells (l.length:Nat) (l.flatMap runNums)
def wa (o a b:Gn):KS:=let m:=merged o a b;⟨(m.1.length:Nat),m.1,[m.2.1,m.2.2],none⟩
def ui:Sp:=fun vs H Q _=>∃ (p q:Gf) (a b:Gn),vs=[.ref p,.ref q]/\eS H p (linesOf a)/\eS H q (linesOf b)/\isText a=true/\isText b=true/\∀ (H':Hp) (c:Gf),eT H H'->H c=none->lI H' c (rJ a b)->Q (.ref c) H'
def wF:Sp:=fun vs H Q _=>∃ (p0 p q:Gf) (o a b:Gn),vs=[.ref p0,.ref p,.ref q]/\eS H p0 (linesOf o)/\eS H p (linesOf a)/\eS H q (linesOf b)/\isText o=true/\isText a=true/\isText b=true/\∀ (H':Hp) (c:Gf),eT H H'->H c=none->lI H' c (wa o a b)->Q (.ref c) H'
theorem oW {t:Gn} (h:isText t=true):t.length<=65536:=iM h
theorem AV {l:List Jt} {i:Nat} {x:Jt} (h:l[i]?=some x):(l.take (i+1)).flatMap runNums=(l.take i).flatMap runNums++runNums x:=by
 rw [HP,h,Jq];simp
theorem uw (l:List Jt):(l.flatMap runNums).length=4*l.length:=by
 induction l with
 | nil=>rfl
 | cons x l ih =>
  rw [I0,Gi,ih,GQ];show 4+_=_;omega
theorem sw:eM ["old","new","runs","listed","run"] ["old","new"] (defScope jH):=mkSc
theorem yD {f:Gf} {fd:GG} (F:Fun K "answer_differ" "answer_differ" jH f fd) (T:TxS K mg) (GD:Fn P w K mg base 14 "differing_runs" ["old","new"] (yd K)) (G:Fn P w K mg base 2 "list_answer" ["number","listed"] qX):ff P w K mg base (CXF P w) 15 f fd ["old","new"] ui:=by
 refine okN (k:=14) F sw fun cdv A outer s H vs Q E hr h=>?_
 ·obtain ⟨p,q,a,b,rfl,hA,hB,ta,tb,k⟩:=h
  have nd:=sw.nd;have hr2:fi 2 _:=hr.mono (by decide);have la:=fL ta;have lb:=fL tb;refine ⟨_,eE (eO (i:=2) nd U (Gy U) (eV GD hr U eG (eA (pv 0) (eA (pv 1) eF))))
   (eE (eO (i:=3) nd U (Gy U) (fP eF))
   (eE (gQ Hz U (gr (pv 2)) (eZ (i:=4) nd U (Gy U))
    (eI (fe (gm Gw Hc Hb Ah (pv 3) (eA (pv 4) eF)))))
   (eI (eP (eV G hr2 U eG (eA (eU eL U T.len Gz (eA (pv 2) eF)) (eA (pv 3) eF))))))),?_⟩
  refine ⟨_,U,_,U,p,q,_,_,U,hA,hB,by omega,by omega,fun H1 r s1 nr ⟨ts,hr',ob⟩=>?_⟩
  have rl:=Lb.oC (linesOf a) (linesOf b);have szl:sizeLine=16777216:=Hj;refine ⟨G5 _,fun l nl=>?_⟩
  have s2:=s1.new (o := .lst []) nl;have s12:=L2.upN (o := .lst []) nl;have nl0:H l=none:=s1.free nl;refine ⟨_,U,r,U,⟨_,SqL.of (s12 _ _ hr')⟩,gW (K:=K) (a:=r) (xs:=ts.map V.ref) (fun i σ H'=>∃ v4:Option V,σ=[some (.ref p),some (.ref q),some (.ref r),some (.ref l),v4]/\eT H H'/\eT H1 H'/\H' l=some (.lst ((((runsOf (linesOf a) (linesOf b)).take i).flatMap runNums).map fun n=>V.int (n:Nat))))
   ⟨none,rfl,s2,s12,eC⟩ (fun i σ H' _ ⟨_,_,_,s3,_⟩=>SqL.of (s3 _ _ hr')) ?_ ?_⟩
  ·rintro i x σ H2 hx ⟨v4,rfl,s02,s13,hl⟩
   obtain ⟨t,ht,rfl⟩:=fz hx;obtain ⟨y,hy,et⟩:=ob.ofGet ht;have il:=(Gj.mp hy).1;refine ⟨_,U,.inl ⟨U,_,SqL.of hl⟩,_,U,l,t,_,_,U,U,hl,SqT.of (s13 _ _ et),?_,_,U,s02.own nl0,s13.own nl,?_⟩
   ·rw [Ge,uw,HF]
    show _+4<=_;omega
   ·rw [eC,AV hy,Gr]
    rfl
  ·rintro σ H2 ⟨v4,rfl,s02,s13,hl⟩
   rw [Ge,ob.len,Ib] at hl;refine ⟨_,U,r,_,U,.inl (SqL.of (s13 _ _ hr')),_,U,?_⟩;refine ⟨_,l,(runsOf (linesOf a) (linesOf b)).flatMap runNums,U,hl,?_,fun H' c s4 nc hc=>k H' c (s02.trans s4) (s02.free nc) ?_⟩
   ·rw [uw]
    omega
   ·unfold lI
    rw [hc,Ge,ob.len];rfl
theorem uu:eM ["base","ours","theirs","merged"] ["base","ours","theirs"] (defScope kd):=mkSc
theorem Bd {f C:Gf} {fd:GG} (F:Fun K "answer_merge" "answer_merge" kd f fd) (T:TxS K mg) (TM:TxM K mg C) (GM:Fn P w K mg base 15 "merge_three" ["base","ours","theirs"] (zt K C)) (G:Fn P w K mg base 1 "full_answer" ["number","row","listed","kind","place"] qj):ff P w K mg base (CXF P w) 16 f fd ["base","ours","theirs"] wF:=by
 refine okN (k:=15) F uu fun cdv A outer s H vs Q E hr h=>?_
 ·obtain ⟨p0,p,q,o,a,b,rfl,hO,hA,hB,to,ta,tb,k⟩:=h
  have nd:=uu.nd;have hr1:fi 1 _:=hr.mono (by decide);have lo:=fL to;have la:=fL ta;have lb:=fL tb;have jo:=oW to;have ja:=oW ta;have jb:=oW tb;refine ⟨_,eE (eO (i:=3) nd U (Gy U) (eV GM hr U eG (eA (pv 0) (eA (pv 1) (eA (pv 2) eF)))))
   (eI (eP (eV G hr1 U eG (eA (eU eL U T.len Gz (eA (eQ (pv 3) U) eF)) (eA (eQ (pv 3) U) (eA (fP (eA (eQ (pv 3) U) (eA (eQ (pv 3) U) eF))) (eA eN (eA eN eF)))))))),?_⟩
  refine ⟨_,U,_,U,_,U,p0,p,q,_,_,_,U,hO,hA,hB,by omega,by omega,by omega,by rw [Lb.fK];omega,by rw [Lb.fK];omega,by rw [Lb.fK];omega,fun H1 m c s1 nm nc hM ml=>?_⟩
  rw [Lb.Bm] at hM ml;obtain ⟨dx,h1,h2⟩:=id hM;refine ⟨_,U,m,C,dx,_,_,U,h1,TM.cl,TM.nR,mM _ _ _,c,_,U,.inl (SqL.of h2),?_⟩;refine ⟨_,U,m,C,dx,_,_,U,h1,TM.cl,TM.nR,mM _ _ _,?_⟩;refine ⟨_,rfl,m,C,dx,_,_,rfl,h1,TM.cl,TM.nC,ma _ _ _,_,rfl,m,C,dx,_,_,rfl,h1,TM.cl,TM.nF,DH _ _ _,(by show 2<=sizeLine;decide),fun l nl=>?_⟩
  have s2:=L2.upN (o := .lst [.int ((merged o a b).2.1:Nat),.int ((merged o a b).2.2:Nat)]) nl;refine ⟨_,0,0,c,l,((merged o a b).1).map fun x=>(x.toNat:Int),[((merged o a b).2.1:Nat),((merged o a b).2.2:Nat)],U,?_,eC,?_,fun H' e s4 ne he=>k H' e ((s1.trans s2).trans s4) ((s1.trans s2).free ne) ?_⟩
  ·rw [← vi]
   exact s2 _ _ h2
  ·rw [Ge,Hj]
   show _+2+5<=_;omega
  ·unfold lI
   rw [he,pB,Ge];rfl
def byPatchA (ap:Bool) (a z:Gn):KS:=if ap=true then ofPatch a z fun x l=>gives (joinedL (patched x 0 l)) else ofPatch a z fun x l=>gives (patchBytes (backOf x 0 l))
def uf:Sp:=fun vs H Q _=>∃ (nm:G9) (p r:Gf) (a z:Gn),vs=[.str nm,.ref p,.ref r]/\eS H p (linesOf a)/\isText a=true/\H r=some (.lst (z.map vb))/\z.length<=131072/\∀ (H':Hp) (c:Gf),eT H H'->H c=none->lI H' c (byPatchA (decide (nm = "apply")) a z)->Q (.ref c) H'
theorem ze (l:List Ju):(l.map ofPiece).map toPiece=l:=by
 rw [Ic];conv=>rhs;rw [← List.map_id l]
 apply ID;intro p _;exact Lb.ya p
theorem _root_.L2.fi.mark {k:Nat} {A:HB} (r:fi k A) (hk:k<10) (e:Option Gg):fi k (A.mark e):=⟨fun z=>absurd z (by omega),r.dp,r.un⟩
theorem sq:eM ["name","old","row","patch","fault"] ["name","old","row"] (defScope iP):=mkSc
theorem yz {f CF:Gf} {fd:GG} (F:Fun K "answer_by_patch" "answer_by_patch" iP f fd) (FO:gU P w K mg base CF) (GR:Fn P w K mg base 14 "read_patch" ["row","old"] (mz K CF)) (GF:Fn P w K mg base 2 "fault_answer" ["fault"] (rZ CF)) (GA:Fn P w K mg base 2 "row_answer" ["row"] rT)
  (GJ:Fn P w K mg base 11 "join_lines" ["lines"] (qi K)) (GP:Fn P w K mg base 11 "patched" ["old","patch"] (qg K)) (GB:Fn P w K mg base 12 "patch_bytes" ["patch"] (oZ K)) (GT:Fn P w K mg base 11 "turned_back" ["old","patch"] (B7 K)):ff P w K mg base (CXF P w) 15 f fd ["name","old","row"] uf:=by
 refine okN (k:=14) F sq fun cdv A outer s H vs Q E hr h=>?_
 ·obtain ⟨nm,p,r,a,z,rfl,hA,ta,hz,zl,k⟩:=h
  have nd:=sq.nd;have hr2:fi 2 _:=hr.mono (by decide);have hr11:fi 11 _:=hr.mono (by decide);have hr12:fi 12 _:=hr.mono (by decide);obtain ⟨fI,fdI,XC,_,_⟩:=FO.ex;obtain ⟨fR,fdR,m1,m2,m3,m4⟩:=GR.ex;refine ⟨_,eE (wY XC U FO.at_ m4 hr U m1 m2 m3 (eA (pv 2) (eA (pv 1) eF)) nd (i:=3) U (Gy U) (j:=4) U U (fun ev=>eI (eP (eV GF (hr2.mark (by decide) _) U eG (eA (pv 4) eF)))) U U U)
   (eE (fF (eX io (pv 0) h8 (fb _)) (eI (eP (eV GA hr2 U eG (eA (eV GJ hr11 U eG (eA (eV GP hr11 U eG (eA (pv 1) (eA (pv 3) eF))) eF)) eF)))) eY)
   (eI (eP (eV GA hr2 U eG (eA (eV GB hr12 U eG (eA (eV GT hr11 U eG (eA (pv 1) (eA (pv 3) eF))) eF)) eF))))),?_⟩
  have szl:sizeLine=16777216:=Hj;have jl:=oW ta;have ll:=fL ta;refine ⟨_,U,_,U,r,p,z,linesOf a,U,hz,by omega,hA,Lb.gp a,fun e he=>?_,fun l hl H1 q s1 nq hq=>?_⟩
  ·intro H' dx s' hd
   refine ⟨U,dx,U,fun ea nea=>?_⟩
   have s2:=L2.upN (o:=ot CF ea dx) nea;refine ⟨_,U,ea,dx,e,U,eC,s2 _ _ hd,fun H2 c s3 nc hc=>k H2 c ((s'.trans s2).trans s3) ((s'.trans s2).free nc) ?_⟩
   unfold lI;rw [hc];unfold byPatchA Lx;rw [he];split <;> rfl
  obtain ⟨r1,r2,r3⟩:=Lb.lW hl;have zl2:(l.flatMap encP).length+8=z.length:=by
   rw [← r2,Lb.gk,Gi,Gi,Lb.gg];have:(Hw "SWV1").length=4:=by decide
   omega
  have pl:=lZ r1 (G5 _);have pj:=Lb.pd r1;rw [Ip,Lb.fK] at pj;have lc:=Lb.Av l;have bl:=Lb.xM (k:=0) r1;rw [Ip,Lb.fK] at bl;have bc:=Lb.tE (a:=linesOf a) (l:=l) (k:=0);refine ⟨_,U,U,_,U,?_⟩;refine gh (fun g=>?_) (fun g=>?_)
  ·have g:nm = "apply":=by
    have g:=Gd g;injection g
   have ea:byPatchA (decide (nm = "apply")) a z=gives (joinedL (patched (linesOf a) 0 l)):=by
    rw [Gb g];unfold byPatchA Lx;rw [hl];rfl
   rw [ea] at k;refine ⟨_,U,_,U,p,q,_,l,U,hA.same s1,hq,by omega,fun H2 n s2 nn hn=>?_⟩
   refine ⟨n,_,U,hn,by omega,fun H3 j s3 nj hj=>?_⟩
   exact ⟨j,_,U,hj,by omega,fun H4 c s4 nc hc=>k H4 c (((s1.trans s2).trans s3).trans s4) (((s1.trans s2).trans s3).free nc) hc⟩
  ·have g:¬ nm = "apply":=fun x=>g (Gb (by rw [x]))
   have ea:byPatchA (decide (nm = "apply")) a z=gives (patchBytes (backOf (linesOf a) 0 l)):=by
    rw [Gc g];unfold byPatchA Lx;rw [hl];rfl
   rw [ea] at k;refine ⟨_,U,_,U,p,q,_,l,U,hA.same s1,Lb.gp a,hq,r1,by omega,fun H2 n s2 nn hn=>?_⟩
   have pb:(patchBytes (backOf (linesOf a) 0 l)).length<=300000:=by
    rw [Lb.gk,Gi,Gi,Lb.gg];have:(Hw "SWV1").length=4:=by decide
    omega
   refine ⟨n,_,U,hn,by rw [ze];omega,fun H3 j s3 nj hj=>?_⟩
   rw [ze] at hj;exact ⟨j,_,U,hj,by omega,fun H4 c s4 nc hc=>k H4 c (((s1.trans s2).trans s3).trans s4) (((s1.trans s2).trans s3).free nc) hc⟩
def ue:Sp:=fun vs H Q _=>∃ (nm:G9) (t:Gf) (ps:List Gf) (ts:List Gn) (an:KS),vs=[.str nm,.ref t]/\H t=some (.lst (ps.map V.ref))/\ps.length=ts.length/\(∀ (i:Nat) (p:Gf) (b:Gn),ps[i]?=some p->ts[i]?=some b->eS H p (linesOf b)/\isText b=true) /\
 ((nm = "differ" /\ ∃ a b,ts=[a,b]/\an=rJ a b)∨(nm = "patch" /\ ∃ a b,ts=[a,b]/\an=gives (patchOf a b))∨(nm = "merge" /\ ∃ o a b,ts=[o,a,b]/\an=wa o a b))/\∀ (H':Hp) (c:Gf),eT H H'->H c=none->lI H' c an->Q (.ref c) H'
theorem yj:eM ["name","texts"] ["name","texts"] (defScope iO):=mkSc
theorem yy {f:Gf} {fd:GG} (F:Fun K "answer_by_texts" "answer_by_texts" iO f fd) (GD:Fn P w K mg base 15 "answer_differ" ["old","new"] ui) (GM:Fn P w K mg base 16 "answer_merge" ["base","ours","theirs"] wF) (GA:Fn P w K mg base 2 "row_answer" ["row"] rT)
  (GB:Fn P w K mg base 12 "patch_bytes" ["patch"] (oZ K)) (GT:Fn P w K mg base 15 "patch_between" ["old","new"] (qk K)):ff P w K mg base (CXF P w) 17 f fd ["name","texts"] ue:=by
 refine okN (k:=16) F yj fun cdv A outer s H vs Q E hr h=>?_
 ·obtain ⟨nm,t,ps,ts,an,rfl,ht,pl,hl,hc,k⟩:=h
  have hr2:fi 2 _:=hr.mono (by decide);have hr12:fi 12 _:=hr.mono (by decide);have hr15:fi 15 _:=hr.mono (by decide);refine ⟨_,eE (fF (eX io (pv 0) h8 (fb _)) (eI (eP (eV GD hr15 U eG (eA (fM fm (pv 1) eN (fun _ _=>U)) (eA (fM fm (pv 1) eN (fun _ _=>U)) eF))))) eY)
   (eE (fF (eX io (pv 0) h8 (fb _)) (eI (eP (eV GA hr2 U eG (eA (eV GB hr12 U eG (eA (eV GT hr15 U eG (eA (fM fm (pv 1) eN (fun _ _=>U)) (eA (fM fm (pv 1) eN (fun _ _=>U)) eF))) eF)) eF)))) eY)
   (eI (eP (eV GM hr U eG (eA (fM fm (pv 1) eN (fun _ _=>U)) (eA (fM fm (pv 1) eN (fun _ _=>U)) (eA (fM fm (pv 1) eN (fun _ _=>U)) eF))))))),?_⟩
  have szl:sizeLine=16777216:=Hj;rcases hc with ⟨rfl,a,b,rfl,rfl⟩ | ⟨rfl,a,b,rfl,rfl⟩ | ⟨rfl,o,a,b,rfl,rfl⟩
  ·match ps,pl with
   | [p,q],_ =>
    obtain ⟨hA,ta⟩:=hl 0 p a rfl rfl;obtain ⟨hB,tb⟩:=hl 1 q b rfl rfl;refine ⟨_,U,U,_,U,?_⟩;refine (Ga (by decide +kernel)).mpr ?_;refine ⟨_,U,t,_,_,_,U,U,SqL.of ht,U,_,U,t,_,_,_,U,U,SqL.of ht,U,?_⟩;exact ⟨p,q,a,b,U,hA,hB,ta,tb,k⟩
  ·match ps,pl with
   | [p,q],_ =>
    obtain ⟨hA,ta⟩:=hl 0 p a rfl rfl;obtain ⟨hB,tb⟩:=hl 1 q b rfl rfl;have la:=fL ta;have lb:=fL tb;refine ⟨_,U,U,_,U,?_⟩;refine (F9 (by decide +kernel)).mpr ?_;refine ⟨_,U,U,_,U,?_⟩;refine (Ga (by decide +kernel)).mpr ?_;refine ⟨_,U,t,_,_,_,U,U,SqL.of ht,U,_,U,t,_,_,_,U,U,SqL.of ht,U,?_⟩;refine ⟨p,q,_,_,U,hA,hB,by omega,by omega,fun H1 r s1 nr hr'=>?_⟩
    have plen:=Lb.uF ta tb;refine ⟨r,_,U,hr'.to,by rw [jJ];omega,fun H2 c s2 nc hc=>?_⟩
    rw [jJ] at hc;exact ⟨c,_,U,hc,by omega,fun H3 d s3 nd hd=>k H3 d ((s1.trans s2).trans s3) ((s1.trans s2).free nd) hd⟩
  ·match ps,pl with
   | [p0,p,q],_ =>
    obtain ⟨hO,to⟩:=hl 0 p0 o rfl rfl;obtain ⟨hA,ta⟩:=hl 1 p a rfl rfl;obtain ⟨hB,tb⟩:=hl 2 q b rfl rfl;refine ⟨_,U,U,_,U,?_⟩;refine (F9 (by decide +kernel)).mpr ?_;refine ⟨_,U,U,_,U,?_⟩;refine (F9 (by decide +kernel)).mpr ?_;refine ⟨_,U,t,_,_,_,U,U,SqL.of ht,U,_,U,t,_,_,_,U,U,SqL.of ht,U,_,U,t,_,_,_,U,U,SqL.of ht,U,?_⟩;exact ⟨p0,p,q,o,a,b,U,hO,hA,hB,to,ta,tb,k⟩
end Lp
namespace L2
open PySem PySem.Spec PyProof.Rows
def Ej (P:Hk) (w:Hy) (K:Gh) (mg:G9->Option Gg) (x:G9) (kvs:List (Key×V)):Prop:=∃ (a:Gf) (vs:List (Key×Gg)),mg x=some (.ref a)/\KV kvs vs/\∀ h:GZ,K.In h->h.DictOf (mixKind P w) a vs
def tKD (kvs:List (Key×V)) (ty:TE):TE:=fun σ H Q=>ty σ H fun y H2=>∃ k v,y=kV k/\valV kvs k=some v/\Q v H2
section
variable {X:Cx} {x:G9} {kvs:List (Key×V)} {i:HM} {ty:TE} {p pos:Kv}
theorem pe_kd (hm:Ej X.prog X.w X.K X.mg x kvs) (hg:Gl X x) (hi:PE X i ty) (hs:NoSl i) (hd:(x == ("__debug__":G9))=false:=by decide):PE X (.Subscript (.Name x p) i pos) (tKD kvs ty):=by
 obtain ⟨a,vs,h1,h2,h3⟩:=hm;intro pins s σ H Q I h;refine zj Mg.lookup hs (thn (vG (v := .ref a) hg h1 rfl hd pins s σ H (fun v H1=>v = .ref a/\H1=H) I ⟨rfl,rfl⟩) fun u s1 ⟨v0,H1,I1,rx,e1,e2⟩=>?_)
 subst e1 e2;obtain rfl:u=Hq a:=rx;refine thn (hi pins s1 σ H1 _ I1 h) fun iv s2 ⟨y,H2,I2,ry,k,v,ey,g,q2⟩=>?_
 subst ey;have dd:=h3 _ I2.kIn;obtain ⟨w',hw,rw'⟩:=jB.some_of (v:=v) (o:=valueAt vs k) (by rw [← g];exact h2.val k);exact ⟨dd.typeIs,wpAny_getItem_of (pM ry) dd.mapOf hw ⟨v,H2,I2.tok _,rw',q2⟩⟩
end
end L2
namespace Lp
open PySem PySem.Spec PyProof.Rows L2
open Sw (Bytes ofLe part)
open SwVersion (linesOf joinedL isOpen isText LF runsOf someOf must Piece patchBytes patched backOf readRuns readPatch marked patchOf parentOf readVersions readHistory KEPT VERSIONS merged piecesOf parentNum)
open Lb (fj fJ y4 bv bitsOf eqsOf sx pairsOf gD dist runsP Up between linesRun toPiece ofPiece encP gq iJ lastBad jc addPlace addLines pmerge MSt stillOf tG byPatch WF gz keptText oneVersion patchedG Anc jf whBy jN fillOne fillAll encV)
open VersionNs (Answer says tells gives wrong runNums ofPatch)
open VersionNeutral (numbersOf text)
variable {P:Hk} {w:Hy} {K:Gh} {mg:G9->Option Gg} {base:GZ}
def cf (a:Gf) (n:Int):List (G9×V):=putF "at" (.int n) (putF "calls" (.ref a) [])
def tJ (C:Gf) (H:Hp) (r a:Gf) (n:Nat):Prop:=∃ dx,H r=some (.ins C dx (cf a n))
theorem xH (a:Gf) (n:Int):(cf a n).lookup ("calls":G9)=some (.ref a):=by
 unfold cf;rw [eJ,F9 (by decide +kernel),eJ,Ga rfl]
theorem AA (a:Gf) (n:Int):(cf a n).lookup ("at":G9)=some (.int n):=by
 unfold cf;rw [eJ,Ga rfl]
theorem D8 (a:Gf) (n:Int) {m:G9} (h1:¬ m = "at") (h2:¬ m = "calls"):(cf a n).lookup m=none:=by
 unfold cf;rw [eJ,F9 h1,eJ,F9 h2];rfl
theorem cf_put (a:Gf) (n m:Int):putF "at" (.int m) (cf a n)=cf a m:=rfl
theorem But.seqI {K:Gh} {r a C dx:Gf} {fs:List (G9×V)} {H H':Hp} {xs:List V} (e:H r=some (.ins C dx fs)) (s:But r H H') (h:SqL K H a xs):SqL K H' a xs:=by
 rcases h with (h | ⟨o,h⟩) | h
 ·exact .inl (.inl (s _ _ h (fG h e (by intro z;cases z))))
 ·exact .inl (.inr ⟨o,s _ _ h (fG h e (by intro z;cases z))⟩)
 ·exact .inr h
structure TxC (K:Gh) (mg:G9->Option Gg) (C:Gf):Prop where
 cl:Cls K C
 nC:fq K C "calls"
 nA:fq K C "at"
 len:mg "len"=none
def zD (C:Gf):Sp:=fun vs H Q _=>∃ (r dx a:Gf),vs=[.ref r,.ref a]/\H r=some (.ins C dx [])/\∀ H':Hp,tJ C H' r a 0->But r H H'->Q .non H'
def BW (K:Gh) (C:Gf):Sp:=fun vs H Q _=>∃ (r a:Gf) (ns:List Int) (n:Nat),vs=[.ref r]/\tJ C H r a n/\SqL K H a (ns.map V.int)/\Q (.bl (decide (n<ns.length))) H
def qh (K:Gh) (C:Gf):Sp:=fun vs H Q _=>∃ (r a:Gf) (ns:List Int) (n c:Nat),vs=[.ref r,.int (c:Nat)]/\tJ C H r a n/\SqL K H a (ns.map V.int)/\∀ (H':Hp) (l:Gf),But r H H'->tJ C H' r a (n+c)->H l=none->H' l=some (.lst (((ns.drop n).take c).map V.int))->Q (.ref l) H'
def wC (K:Gh) (C:Gf):Sp:=fun vs H Q _=>∃ (r a:Gf) (ns:List Int) (n:Nat) (z:Int),vs=[.ref r]/\tJ C H r a n/\SqL K H a (ns.map V.int)/\ns[n]?=some z/\∀ H':Hp,But r H H'->tJ C H' r a (n+1)->Q (.int z) H'
def big (sort:G9) (b:Gn):Bool:=if sort = "text" then !isText b else if sort = "patch" then decide (131072<b.length) else decide (1200000<b.length)
def ud (K:Gh):Sp:=fun vs H Q _=>∃ (sort:G9) (r:Gf) (b:Gn),vs=[.str sort,.ref r]/\SqL K H r (b.map vb)/\Q (.bl (big sort b)) H
theorem Ct:eM ["self","calls"] ["self","calls"] (defScope iV):=mkSc
theorem Dv {f C:Gf} {fd:GG} (F:Fun K "__init__" "CallReader.__init__" iV f fd) (T:TxC K mg C):ff P w K mg base (CXF P w) 1 f fd ["self","calls"] (zD C):=by
 refine okN (k:=0) F Ct fun cdv A outer s H vs Q E hr h=>?_
 ·obtain ⟨r,dx,a,rfl,he,q⟩:=h
  refine ⟨_,eE (gw (pv 0) (pv 1) U) (eI (gw (pv 0) eN U)),?_⟩;refine ⟨_,rfl,_,rfl,r,C,dx,[],rfl,he,T.cl,T.nC,(by show 0<1000;decide),?_⟩;refine ⟨_,rfl,r,C,dx,_,rfl,eC,T.cl,T.nA,(by show 1<1000;decide),?_⟩;exact q _ ⟨dx,eC⟩ (But.refl.upd.upd)
theorem EC:eM ["self"] ["self"] (defScope gZ):=mkSc
theorem Fb {f C:Gf} {fd:GG} (F:Fun K "has_more" "CallReader.has_more" gZ f fd) (T:TxC K mg C):ff P w K mg base (CXF P w) 1 f fd ["self"] (BW K C):=by
 refine okN (k:=0) F EC fun cdv A outer s H vs Q E hr h=>?_
 ·obtain ⟨r,a,ns,n,rfl,⟨dx,hI⟩,hS,q⟩:=h
  refine ⟨_,eI (eP (gC qP (eQ (pv 0) U) (eU eL U T.len Gz (eA (eQ (pv 0) U) eF)) (fb _))),?_⟩;refine ⟨_,U,r,C,dx,_,_,U,hI,T.cl,T.nA,AA _ _,_,U,r,C,dx,_,_,U,hI,T.cl,T.nC,xH _ _,a,_,U,.inl hS,_,_,U,U,?_⟩;rw [Ge];rw [show decide (n<ns.length)=decide ((n:Int)<(ns.length:Nat)) from decide_eq_decide.mpr (by omega)] at q;exact q
theorem yh:eM ["self","count"] ["self","count"] (defScope gv):=mkSc
theorem yw {f C:Gf} {fd:GG} (F:Fun K "read_numbers" "CallReader.read_numbers" gv f fd) (T:TxC K mg C):ff P w K mg base (CXF P w) 1 f fd ["self","count"] (qh K C):=by
 refine okN (k:=0) F yh fun cdv A outer s H vs Q E hr h=>?_
 ·obtain ⟨r,a,ns,n,c,rfl,⟨dx,hI⟩,hS,k⟩:=h
  refine ⟨_,eE (nz (pv 0) (pv 1) vO)
   (eI (eP (fZ gy (eQ (pv 0) U) (fH (fA iG (eQ (pv 0) U) (pv 1))) (fH (eQ (pv 0) U))))),?_⟩
  refine ⟨_,rfl,r,C,dx,_,_,rfl,hI,T.cl,T.nA,AA _ _,_,rfl,_,_,rfl,rfl,dx,_,hI,(by show 2<1000;decide),?_⟩;rw [cf_put];have hS2:SqL K (upd H r (.ins C dx (cf a ((n:Int)+c)))) a (ns.map V.int):=But.seqI (r:=r) hI (But.refl.upd) hS;refine ⟨_,U,r,C,dx,_,_,U,eC,T.cl,T.nC,xH _ _,_,U,r,C,dx,_,_,U,eC,T.cl,T.nA,AA _ _,_,U,_,_,U,U,_,U,_,U,r,C,dx,_,_,U,eC,T.cl,T.nA,AA _ _,_,U,a,_,U,hS2,fun l nl=>?_⟩
  have lr:l≠r:=fun z=>by rw [z,eC] at nl;cases nl
  have nl0:H l=none:=by
   rw [eK lr] at nl;exact nl
  refine k _ l (But.refl.upd.new nl) ⟨dx,?_⟩ nl0 ?_
  ·rw [eK (HA lr),eC]
   rfl
  ·rw [eC]
   have e:cutV (ns.map V.int) (some ((n:Int)+c-c)) (some ((n:Int)+c))=((ns.drop n).take c).map V.int:=by
    rw [i7 (xs:=ns.map V.int) (s:=n) (e:=n+c) (by omega) (by omega),show n+c-n=c by omega,IT,Il]
   rw [← e]
theorem AO:eM ["self"] ["self"] (defScope gA):=mkSc
theorem A8 {f C:Gf} {fd:GG} (F:Fun K "read_number" "CallReader.read_number" gA f fd) (T:TxC K mg C) (G:Md P w K mg base 1 C "read_numbers" ["self","count"] (qh K C)):ff P w K mg base (CXF P w) 2 f fd ["self"] (wC K C):=by
 refine okN (k:=1) F AO fun cdv A outer s H vs Q E hr h=>?_
 ·obtain ⟨r,a,ns,n,z,rfl,⟨dx,hI⟩,hS,hz,k⟩:=h
  refine ⟨_,eI (eP (fM fm (f6 (pv 0) T.cl G hr eG (eA eN eF)) eN (fun _ _=>U))),?_⟩
  refine ⟨_,U,r,dx,_,U,hI,D8 _ _ (by decide +kernel) (by decide +kernel),r,a,ns,n,1,U,⟨dx,hI⟩,hS,fun H1 l s1 hC nl hl=>?_⟩
  have hlt:=(Gj.mp hz).1;have e1:(ns.drop n).take 1=[z]:=by
   rw [GX hlt,(Gj.mp hz).2];rfl
  rw [e1] at hl;exact ⟨l,_,_,_,U,U,SqL.of hl,U,k H1 s1 hC⟩
theorem yi:eM ["sort","row"] ["sort","row"] (defScope qm):=mkSc
theorem yx {f:Gf} {fd:GG} (F:Fun K "exceeds" "exceeds" qm f fd) (T:TxS K mg) (G:Fn P w K mg base 3 "is_too_large" ["row"] (zy K)):ff P w K mg base (CXF P w) 4 f fd ["sort","row"] (ud K):=by
 refine okN (k:=3) F yi fun cdv A outer s H vs Q E hr h=>?_
 ·obtain ⟨sort,r,b,rfl,hS,q⟩:=h
  refine ⟨_,eE (fF (eX io (pv 0) h8 (fb _)) (eI (eP (eV G hr U eG (eA (pv 1) eF)))) eY)
   (eE (fF (eX io (pv 0) h8 (fb _)) (eI (eP (gC jg (eU eL U T.len Gz (eA (pv 1) eF)) (fO T.mostP U) (fb _)))) eY)
   (eI (eP (gC jg (eU eL U T.len Gz (eA (pv 1) eF)) (fO T.mostH U) (fb _))))),?_⟩
  unfold big at q;refine ⟨_,U,U,_,U,?_⟩;refine gh (fun g=>?_) (fun g=>?_)
  ·have g:sort = "text":=by
    have g:=Gd g;injection g
   rw [Ga g] at q;exact ⟨_,U,r,b,U,hS,q⟩
  have g:¬ sort = "text":=fun z=>g (Gb (by rw [z]))
  rw [F9 g] at q;refine ⟨_,U,U,_,U,?_⟩;refine gh (fun g2=>?_) (fun g2=>?_)
  ·have g2:sort = "patch":=by
    have g2:=Gd g2;injection g2
   rw [Ga g2] at q;refine ⟨_,U,r,_,U,.inl hS,_,_,U,U,?_⟩;rw [Ge];rw [show decide (131072<b.length)=decide ((131072:Int)<(b.length:Nat)) from decide_eq_decide.mpr (by omega)] at q;exact q
  ·have g2:¬ sort = "patch":=fun z=>g2 (Gb (by rw [z]))
   rw [F9 g2] at q;refine ⟨_,U,r,_,U,.inl hS,_,_,U,U,?_⟩;rw [Ge];rw [show decide (1200000<b.length)=decide ((1200000:Int)<(b.length:Nat)) from decide_eq_decide.mpr (by omega)] at q;exact q
abbrev Tbl:=Int->Option (G9×Nat×List G9)
def yY (P:Hk) (w:Hy) (K:Gh) (mg:G9->Option Gg) (tbl:Tbl):Prop:=∃ kvs,Ej P w K mg "CALLS" kvs/\∀ p nm c ks,tbl p=some (nm,c,ks)->∃ a b,valV kvs (Hm p)=some (.ref a)/\(∀ H,SqT K H a [.str nm,.int (c:Nat),.ref b])/\∀ H,SqT K H b (ks.map V.str)
def kf (nm:G9) (la lr:Gf) (bg:Bool):List (G9×V):=putF "has_too_large" (.bl bg) (putF "rows" (.ref lr) (putF "numbers" (.ref la) (putF "name" (.str nm) [])))
structure kE (H:Hp) (as:List Gf) (xs:List (List Int)):Prop where
 len:as.length=xs.length
 at_:∀ (i:Nat) (a:Gf) (x:List Int),as[i]?=some a->xs[i]?=some x->H a=some (.lst (x.map V.int))
theorem kE.same {H H':Hp} {as:List Gf} {xs:List (List Int)} (h:kE H as xs) (s:∀ b ys,H b=some (.lst ys)->H' b=some (.lst ys)):kE H' as xs:=⟨h.len,fun i a x e1 e2=>s _ _ (h.at_ i a x e1 e2)⟩
theorem kE.nil {H:Hp}:kE H [] []:=⟨rfl,fun i a x e _=>by simp at e⟩
theorem kE.snoc {H:Hp} {as:List Gf} {xs:List (List Int)} {a:Gf} {x:List Int} (h:kE H as xs) (e:H a=some (.lst (x.map V.int))):kE H (as++[a]) (xs++[x]):=by
 refine ⟨by simp [h.len],fun i b m e1 e2=>?_⟩
 by_cases hi:i<as.length
 ·rw [G6 hi] at e1
  rw [G6 (by rw [← h.len];exact hi)] at e2;exact h.at_ i b m e1 e2
 ·have h1:=(Gj.mp e1).1
  have:i=as.length:=by simp at h1;omega
  subst this;rw [Hg (Go _)] at e1;rw [h.len,Hg (Go _)] at e2;simp at e1 e2;subst e1 e2;exact e
def y6 (CC:Gf) (H:Hp) (y:Gf) (nm:G9) (nums:List Int) (rows:List (List Int)) (bg:Bool):Prop:=∃ dx la lr ras,H y=some (.ins CC dx (kf nm la lr bg))/\H la=some (.lst (nums.map V.int))/\H lr=some (.lst (ras.map V.ref))/\kE H ras rows
structure TxK (K:Gh) (CC:Gf):Prop where
 cl:Cls K CC
 nN:fq K CC "name"
 nU:fq K CC "numbers"
 nR:fq K CC "rows"
 nB:fq K CC "has_too_large"
def rL (x:List Int):Prop:=x.map V.int=(text x).map vb
def bigs (ks:List G9) (xs:List (List Int)):Bool:=(HC (fun k x=>big k (text x)) ks xs).any id
theorem sC:∀ (k:Nat) {r:List Int} {xs:List (List Int)} {t:List Int},Jc k r=some (xs,t)->xs.length=k
 | 0,r,xs,t,h=>by
  cases h;rfl
 | k+1,r,xs,t,h=>by
  unfold Jc at h;split at h
  ·cases h
  ·split at h
   ·cases h
   ·rename_i h2
    cases h;show _+1=_;rw [sC k h2]
theorem AW {k:Nat} {r:List Int} {xs:List (List Int)} {t:List Int} (h:Jc (k+1) r=some (xs,t)):∃ z r' x ys,r=z::r'/\0<=z/\z.toNat<=r'.length/\x=r'.take z.toNat/\xs=x::ys/\Jc k (r'.drop z.toNat)=some (ys,t):=by
 cases r with
 | nil=>simp [Jc,PyFlat.row] at h
 | cons z r' =>
  by_cases c:0<=z/\z.toNat<=r'.length
  ·have e:PyFlat.row (z::r')=some (r'.take z.toNat,r'.drop z.toNat):=Ga c
   unfold Jc at h;rw [e] at h;simp only at h;cases e2:Jc k (r'.drop z.toNat) with
   | none=>rw [e2] at h;cases h
   | some q =>
    rw [e2] at h;obtain ⟨ys,t'⟩:=q;have h:=Hd h;injection h with h1 h2
    subst h2;exact ⟨z,r',_,ys,U,c.1,c.2,U,h1.symm,e2⟩
  ·have e:PyFlat.row (z::r')=none:=F9 c
   unfold Jc at h;rw [e] at h;cases h
theorem But.own {r p:Gf} {H H1:Hp} {o:HO} (s:But r H H1) (n:H p=none):But r H (L2.upd H1 p o):=fun c u e m=>by
 rw [eK (eW e n)];exact s c u e m
def zz (CC:Gf):Sp:=fun vs H Q _=>∃ (y dx:Gf) (nm:G9) (la lr:Gf) (bg:Bool),vs=[.ref y,.str nm,.ref la,.ref lr,.bl bg]/\H y=some (.ins CC dx [])/\∀ H':Hp,H' y=some (.ins CC dx (kf nm la lr bg))->But y H H'->Q .non H'
def rV (K:Gh) (C CC:Gf) (tbl:Tbl):Sp:=fun vs H Q _=>∃ (r a:Gf) (ns:List Int) (n:Nat) (p:Int) (rest:List Int) (nm:G9) (c:Nat) (ks:List G9) (xs:List (List Int)) (t:List Int),vs=[.ref r]/\tJ C H r a n/\SqL K H a (ns.map V.int)/\ns.drop n=p::rest/\tbl p=some (nm,c,ks)/\c<=rest.length/\ks.length<=10/\Jc ks.length (rest.drop c)=some (xs,t)/\(∀ x∈xs,rL x) /\
 ∀ (H':Hp) (y:Gf),But r H H'->tJ C H' r a (ns.length-t.length)->ns.drop (ns.length-t.length)=t->y6 CC H' y nm (rest.take c) xs (bigs ks xs)->Q (.ref y) H'
theorem Cp:eM ["self","name","numbers","rows","has_too_large"] ["self","name","numbers","rows","has_too_large"] (defScope mD):=mkSc
theorem Dn {f CC:Gf} {fd:GG} (F:Fun K "__init__" "Call.__init__" mD f fd) (T:TxK K CC):ff P w K mg base (CXF P w) 1 f fd ["self","name","numbers","rows","has_too_large"] (zz CC):=by
 refine okN (k:=0) F Cp fun cdv A outer s H vs Q E hr h=>?_
 ·obtain ⟨x,dx,f,s,l,k,rfl,he,q⟩:=h
  refine ⟨_,eE (gw (pv 0) (pv 1) U) (eE (gw (pv 0) (pv 2) U) (eE (gw (pv 0) (pv 3) U) (eI (gw (pv 0) (pv 4) U)))),?_⟩;refine ⟨_,rfl,_,rfl,x,CC,dx,[],rfl,he,T.cl,T.nN,(by show 0<1000;decide),?_⟩;refine ⟨_,rfl,_,rfl,x,CC,dx,_,rfl,eC,T.cl,T.nU,(by show 1<1000;decide),?_⟩;refine ⟨_,rfl,_,rfl,x,CC,dx,_,rfl,eC,T.cl,T.nR,(by show 2<1000;decide),?_⟩;refine ⟨_,rfl,_,rfl,x,CC,dx,_,rfl,eC,T.cl,T.nB,(by show 3<1000;decide),?_⟩;exact q _ eC (But.refl.upd.upd.upd.upd)
theorem wJ:eM ["self","shape","numbers","rows","has_too_large","sort","row"] ["self"] (defScope gN):=mkSc
theorem Dd {f C CC:Gf} {fd:GG} {tbl:Tbl} (F:Fun K "read_call" "CallReader.read_call" gN f fd) (T:TxC K mg C) (TK:TxK K CC) (GT:yY P w K mg tbl) (GN:Md P w K mg base 2 C "read_number" ["self"] (wC K C)) (GS:Md P w K mg base 1 C "read_numbers" ["self","count"] (qh K C))
  (GE:Fn P w K mg base 4 "exceeds" ["sort","row"] (ud K)) (GC:Cl P w K mg base 1 CC "Call" ["self","name","numbers","rows","has_too_large"] (zz CC)):ff P w K mg base (CXF P w) 11 f fd ["self"] (rV K C CC tbl):=by
 refine okN (k:=10) F wJ fun cdv A outer s H vs Q E hr h=>?_
 ·obtain ⟨r,a,ns,n,p,rest,nm,c,ks,xs,t,rfl,hR,hS,hd,ht,hc,kl,hrow,hby,k⟩:=h
  have nd:=wJ.nd;have hr1:fi 1 _:=hr.mono (by decide);have hr2:fi 2 _:=hr.mono (by decide);have hr4:fi 4 _:=hr.mono (by decide);obtain ⟨kvs,gd,gt⟩:=GT;obtain ⟨sa,sb,v1,v2,v3⟩:=gt p nm c ks ht;refine ⟨_,eE (eO (i:=1) nd U (Gy U) (pe_kd gd U (iF (pv 0) T.cl GN hr2 eG) (fun _ _=>U)))
   (eE (eO (i:=2) nd U (Gy U) (f6 (pv 0) T.cl GS hr1 eG (eA (fM qB (pv 1) eN (fun _ _=>U)) eF)))
   (eE (eO (i:=3) nd U (Gy U) (fP eF))
   (eE (eO (i:=4) nd U (Gy U) w9)
   (eE (gQ Hz U (vD (fM qB (pv 1) eN (fun _ _=>U))) (eZ (i:=5) nd U (Gy U))
    (eE (eO (i:=6) nd U (Gy U) (f6 (pv 0) T.cl GS hr1 eG (eA (iF (pv 0) T.cl GN hr2 eG) eF)))
    (eE (eO (i:=4) nd U (Gy U) (CT (pv 4) (mI (eV GE hr4 U eG (eA (pv 5) (eA (pv 6) eF))))))
    (eI (fe (gm Gw HJ HI gG (pv 3) (eA (pv 6) eF)))))))
   (eI (eP (uE GC hr2 U eG (eA (fM qB (pv 1) eN (fun _ _=>U)) (eA (pv 2) (eA (pv 3) (eA (pv 4) eF))))))))))),?_⟩
  have cno:∀ {m:G9} (x:Int),¬ m = "at" -> ¬ m = "calls" -> (cf a x).lookup m=none:=fun x h1 h2=>D8 _ _ h1 h2
  obtain ⟨dx,hI⟩:=id hR;have hn:n<ns.length:=by
   by_cases q:n<ns.length
   ·exact q
   ·rw [Hn (by omega)] at hd
    cases hd
  have hp:ns[n]?=some p:=by
   have:=congrArg (fun l=>l[0]?) hd
   simpa using this
  have hrest:ns.drop (n+1)=rest:=by
   rw [← IG,hd];rfl
  refine ⟨_,U,r,dx,_,U,hI,cno _ (by decide +kernel) (by decide +kernel),r,a,ns,n,p,U,hR,hS,hp,fun H1 b1 hR1=>?_⟩
  refine ⟨Hm p,_,U,v1,?_⟩;obtain ⟨dx1,hI1⟩:=id hR1;refine ⟨_,U,r,dx1,_,U,hI1,cno _ (by decide +kernel) (by decide +kernel),_,U,sa,_,_,_,U,U,v2 _,U,r,a,ns,n+1,c,U,hR1,But.seqI hI b1 hS,fun H2 la b2 hR2 nla hla=>?_⟩
  rw [hrest] at hla;have b02:=b1.trans b2;have nla0:H la=none:=by
   by_cases e:H la=none
   ·exact e
   ·obtain ⟨o,ho⟩:=HN.mp e
    by_cases ur:la=r
    ·rw [ur,hI1] at nla
     cases nla
    ·rw [b1 la o ho ur] at nla
     cases nla
  obtain ⟨dx2,hI2⟩:=id hR2;refine ⟨G5 _,fun lr nlr=>?_⟩
  have rlr:r≠lr:=fun z=>by rw [← z,hI2] at nlr;cases nlr
  have nlr0:H lr=none:=by
   by_cases e:H lr=none
   ·exact e
   ·obtain ⟨o,ho⟩:=HN.mp e
    rw [b02 lr o ho (HA rlr)] at nlr;cases nlr
  have lalr:la≠lr:=fun z=>by rw [← z,hla] at nlr;cases nlr
  have xl:=sC _ hrow;let Inv:Nat->L2.St->Hp->Prop:=fun i σ H'=>∃ (m:Nat) (ras:List Gf) (v5 v6:Option V),σ=[some (.ref r),some (.ref sa),some (.ref la),some (.ref lr),some (.bl (bigs (ks.take i) (xs.take i))),v5,v6]/\But r H H'/\tJ C H' r a m/\m<=ns.length/\Jc (ks.length-i) (ns.drop m)=some (xs.drop i,t)/\H' la=some (.lst ((rest.take c).map V.int))/\H' lr=some (.lst (ras.map V.ref))/\kE (del H' lr) ras (xs.take i)
  refine ⟨_,U,sa,_,_,_,U,U,v2 _,U,sb,U,⟨_,v3 _⟩,Aq (K:=K) (a:=sb) (xs:=ks.map V.str) Inv ?_ ?_ ?_ ?_⟩
  ·refine ⟨n+1+c,[],none,none,U,b02.own nlr0,⟨dx2,?_⟩,?_,?_,?_,eC,kE.nil⟩
   ·rw [eK rlr];exact hI2
   ·have:=congrArg Ih hrest
    rw [Hv] at this;omega
   ·rw [← IG,hrest]
    exact hrow
   ·rw [eK lalr];exact hla
  ·rintro i σ H' _ _
   exact v3 _
  ·rintro i y σ H3 hy ⟨m,ras,v5,v6,rfl,b3,hR3,hm,hw,hla3,hlr3,ra⟩
   obtain ⟨ki,hki,rfl⟩:=fz hy;have il:=(Gj.mp hki).1;obtain ⟨k',hk'⟩:∃ k',ks.length-i=k'+1:=⟨ks.length-i-1,by omega⟩;rw [hk'] at hw;obtain ⟨z,r',x,ys,e1,z0,zl,ex,exs,hw2⟩:=AW hw;have hx:xs[i]?=some x:=by
    have:=congrArg (fun l=>l[0]?) exs
    simpa using this
   have hz:ns[m]?=some z:=by
    have:=congrArg (fun l=>l[0]?) e1
    simpa using this
   have hml:=(Gj.mp hz).1;have hr':ns.drop (m+1)=r':=by
    rw [← IG,e1];rfl
   have hys:xs.drop (i+1)=ys:=by
    rw [← IG,exs];rfl
   have zc:(z.toNat:Int)=z:=JY z0;obtain ⟨dx3,hI3⟩:=id hR3;refine ⟨_,U,r,dx3,_,U,hI3,cno _ (by decide +kernel) (by decide +kernel),_,U,r,dx3,_,U,hI3,cno _ (by decide +kernel) (by decide +kernel),r,a,ns,m,z,U,hR3,But.seqI hI b3 hS,hz,fun H4 b4 hR4=>?_⟩
   have b04:=b3.trans b4;refine ⟨r,a,ns,m+1,z.toNat,by rw [zc];rfl,hR4,But.seqI hI b04 hS,fun H5 l b5 hR5 nl hl=>?_⟩
   rw [hr',← ex] at hl;have b35:=b4.trans b5;have b05:=b04.trans b5;have hbx:=hby x (HG hx);have hl':H5 l=some (.lst ((text x).map vb)):=by rw [← hbx];exact hl
   have hlr5:=b35 _ _ hlr3 (HA rlr);obtain ⟨dx5,hI5⟩:=id hR5;have lar:la≠r:=fG hla3 hI3 (by intro z;cases z);have hla5:=b35 _ _ hla3 lar;have llr:l≠lr:=fun q=>by
    rw [q,b4 _ _ hlr3 (HA rlr)] at nl;cases nl
   have eb:bigs (ks.take (i+1)) (xs.take (i+1))=(bigs (ks.take i) (xs.take i) || big ki (text x)):=by
    have ek:ks.take (i+1)=ks.take i++[ki]:=by rw [HP,hki];rfl
    have exx:xs.take (i+1)=xs.take i++[x]:=by rw [HP,hx];rfl
    unfold bigs;rw [ek,exx,List.zipWith_append (by rw [HF,HF];omega),List.any_append];simp
   have rl:ras.length<=10:=by
    rw [ra.len,HF];omega
   have post:Inv (i+1) [some (.ref r),some (.ref sa),some (.ref la),some (.ref lr),some (.bl (bigs (ks.take (i+1)) (xs.take (i+1)))),some (.str ki),some (.ref l)] (L2.upd H5 lr (.lst (ras.map V.ref++[.ref l]))):=by
    have exx:xs.take (i+1)=xs.take i++[x]:=by rw [HP,hx];rfl
    refine ⟨m+1+z.toNat,ras++[l],_,_,U,b05.own nlr0,⟨dx5,?_⟩,?_,?_,?_,?_,?_⟩
    ·rw [eK rlr];exact hI5
    ·have:=congrArg Ih hr'
     rw [Hv] at this;omega
    ·rw [show ks.length-(i+1)=k' by omega,← IG,hr',hys]
     exact hw2
    ·rw [eK lalr];exact hla5
    ·rw [eC,Gr]
     rfl
    ·rw [rE,exx]
     refine (ra.same fun b zs e=>?_).snoc ?_
     ·by_cases q:b=lr
      ·subst q;rw [ip] at e;cases e
      ·rw [gj q] at e ⊢
       exact b35 _ _ e (fG e hI3 (by intro z;cases z))
     ·rw [gj llr]
      exact hl
   have szl:sizeLine=16777216:=Hj;have lrl:(ras.map V.ref).length<sizeLine:=by rw [Ge];omega
   cases hb:bigs (ks.take i) (xs.take i) with
   | true =>
    rw [hb,Bool.true_or] at eb;rw [eb] at post;exact ⟨_,U,_,U,(Ga U).mpr ⟨_,U,.inl ⟨U,_,SqL.of hlr5⟩,_,U,lr,_,_,U,U,hlr5,lrl,post⟩⟩
   | false =>
    rw [hb,Bool.false_or] at eb;rw [eb] at post;exact ⟨_,U,_,U,(F9 (by decide)).mpr ⟨_,U,_,U,ki,l,text x,U,SqL.of hl',_,U,.inl ⟨U,_,SqL.of hlr5⟩,_,U,lr,_,_,U,U,hlr5,lrl,post⟩⟩
  ·rintro σ H3 ⟨m,ras,v5,v6,rfl,b3,hR3,hm,hw,hla3,hlr3,ra⟩
   rw [Ge,Jz] at hw;have hw:some (([]:List (List Int)),ns.drop m)=some (xs.drop ks.length,t):=hw;have hw:=Hd hw;injection hw with hw1 hw2
   have mt:ns.length-t.length=m:=by
    rw [← hw2,Hv];omega
   rw [Ge] at ra;rw [Ge];rw [← xl,Ib] at ra;have ek:ks.take ks.length=ks:=Ib;have exx:xs.take ks.length=xs:=by rw [← xl,Ib]
   obtain ⟨dx3,hI3⟩:=id hR3;refine ⟨_,U,sa,_,_,_,U,U,v2 _,U,_,U,_,U,_,U,fun y0 d0 n0 nd0 ne0=>?_⟩
   refine ⟨y0,d0,nm,la,lr,_,U,eC,fun H4 e4 b4=>⟨U,?_⟩⟩
   have s34:eT H3 H4:=gX n0 nd0 b4;rw [ek,exx] at e4;refine k H4 y0 (b3.trans s34.but) ?_ (by rw [mt];exact hw2) ⟨d0,la,lr,ras,e4,s34 _ _ hla3,s34 _ _ hlr3,?_⟩
   ·rw [mt]
    exact ⟨dx3,s34 _ _ hI3⟩
   ·exact ra.same fun b zs e=>s34 _ _ (jV _ _ e)
abbrev FL:=Nat×Nat×List V
def RsAt (H:Hp) (q:Gf) (xs:List FL):Prop:=∃ as:List Gf,H q=some (.lst (as.map V.ref))/\as.length=xs.length/\∀ (i:Nat) (a:Gf) (x:FL),as[i]?=some a->xs[i]?=some x->∃ c,H a=some (.tup [.int x.1,.int x.2.1,.ref c])/\H c=some (.lst x.2.2)
def rW:Sp:=fun vs H Q _=>∃ (p q:Gf) (zs:List V) (xs:List FL),vs=[.ref p,.ref q]/\H p=some (.lst zs)/\RsAt H q xs/\(patchedG zs 0 xs).length<=sizeLine/\∀ (H':Hp) (r:Gf),eT H H'->H r=none->H' r=some (.lst (patchedG zs 0 xs))->Q (.ref r) H'
def noneV (x:k9):FL:=(x.1,x.2.1,Gq x.2.2.length .non)
def BV:Sp:=fun vs H Q _=>∃ (p q:Gf) (zs:List V) (xs:List k9),vs=[.ref p,.ref q]/\H p=some (.lst zs)/\hG H q xs/\xs.length<sizeLine/\(∀ x∈xs,x.2.2.length<=sizeLine)/\(patchedG zs 0 (xs.map noneV)).length<=sizeLine/\∀ (H':Hp) (r:Gf),eT H H'->H r=none->H' r=some (.lst (patchedG zs 0 (xs.map noneV)))->Q (.ref r) H'
theorem EL (k:Nat):(Gq k [V.non]).flatten=Gq k V.non:=by
 induction k with
 | zero=>rfl
 | succ k ih=>rw [Ia,JG,ih,Ia];rfl
theorem xj {f:Gf} {fd:GG} (F:Fun K "patched" "patched" m9 f fd):ff P w K mg base (CXF P w) 11 f fd ["old","patch"] rW:=by
 refine okN (k:=10) F lK fun cdv A outer s H vs Q E hr h=>?_
 ·obtain ⟨p,q,zs,xs,rfl,hp,⟨ts,hq,tl,ht⟩,sz,k⟩:=h
  have nd:=lK.nd;refine ⟨_,eE (eO (i:=2) nd U (Gy U) (fP eF))
   (eE (eO (i:=3) nd U (Gy U) eN)
   (eE (gQ Hz U (gr (pv 1))
    (lY U (fw (eZ (i:=4) nd U (Gy U)) (fw (eZ (i:=5) nd U (Gy U)) (fw (eZ (i:=6) nd U (Gy U)) iX))))
    (eE (fe (gm Gw Hc Hb fQ (pv 2) (eA (fZ gy (pv 0) (fH (pv 3)) (fH (pv 4))) eF)))
    (eE (fe (gm Gw Hc Hb fQ (pv 2) (eA (pv 6) eF)))
    (eI (eO (i:=3) nd U (Gy U) (fA gx (pv 4) (pv 5)))))))
   (eE (fe (gm Gw Hc Hb fQ (pv 2) (eA (fZ gy (pv 0) (fH (pv 3)) nE) eF)))
   (eI (eP (pv 2)))))),?_⟩
  refine ⟨G5 _,fun r nr=>?_⟩
  have s0:eT H (upd H r (.lst [])):=L2.upN nr;refine ⟨_,U,q,U,⟨_,SqL.of (s0 _ _ hq)⟩,gW (K:=K) (a:=q) (xs:=ts.map V.ref) (fun i σ H'=>∃ (e:Nat) (ys:List V) (v4 v5 v6:Option V),σ=[some (.ref p),some (.ref q),some (.ref r),some (.int e),v4,v5,v6]/\eT H H'/\H' r=some (.lst ys)/\ys++patchedG zs e (xs.drop i)=patchedG zs 0 xs)
   ⟨0,[],none,none,none,rfl,s0,eC,rfl⟩ (fun i σ H' _ ⟨_,_,_,_,_,_,s1,_⟩=>SqL.of (s1 _ _ hq)) ?_ ?_⟩
  ·rintro i y σ H1 hi ⟨e,ys,v4,v5,v6,rfl,s1,h1,e1⟩
   obtain ⟨t,ht',rfl⟩:=fz hi;have hil:i<xs.length:=by rw [← tl];exact (Gj.mp ht').1
   obtain ⟨c,ec,hc⟩:=ht i t xs[i] ht' (Gk hil);have dr:xs.drop i=xs[i]::xs.drop (i+1):=GX hil;generalize xs[i]=pc at ec hc dr;rw [dr] at e1;have e1:ys++((zs.drop e).take (pc.1-e)++(pc.2.2++patchedG zs (pc.1+pc.2.1) (xs.drop (i+1))))=patchedG zs 0 xs:=e1;have el:=congrArg Ih e1;simp only [Gi] at el;have cz:cutV zs (some (e:Int)) (some (pc.1:Int))=(zs.drop e).take (pc.1-e):=i7 (s:=e) (e:=pc.1) rfl rfl;refine ⟨t,_,U,SqT.of (s1 _ _ ec),U,_,_,U,_,_,U,_,_,U,U,?_⟩;refine ⟨_,U,.inl ⟨U,_,SqL.of h1⟩,_,U,_,U,_,U,_,U,_,U,p,_,U,SqL.of (s1 _ _ hp),fun c1 nc1=>?_⟩
   rw [cz];refine ⟨r,c1,_,_,U,U,L2.upN nc1 _ _ h1,eC,by omega,?_⟩;have s2:=(s1.new (o := .lst ((zs.drop e).take (pc.1-e))) nc1).own (o := .lst (ys++(zs.drop e).take (pc.1-e))) nr;have h2:upd (upd H1 c1 (.lst ((zs.drop e).take (pc.1-e)))) r (.lst (ys++(zs.drop e).take (pc.1-e))) r=some (.lst (ys++(zs.drop e).take (pc.1-e))):=eC;generalize upd (upd H1 c1 (.lst ((zs.drop e).take (pc.1-e)))) r (.lst (ys++(zs.drop e).take (pc.1-e)))=H2 at s2 h2 ⊢;refine ⟨_,U,.inl ⟨U,_,SqL.of h2⟩,_,U,r,c,_,_,U,U,h2,s2 _ _ hc,?_,?_⟩
   ·rw [Gi]
    omega
   refine ⟨_,U,_,U,_,_,U,U,?_⟩;refine ⟨pc.1+pc.2.1,(ys++(zs.drop e).take (pc.1-e))++pc.2.2,_,_,_,U,s2.own nr,eC,?_⟩;rw [← e1];simp only [Hx]
  ·rintro σ H1 ⟨e,ys,v4,v5,v6,rfl,s1,h1,e1⟩
   rw [Ge,tl,Ik] at e1;have e1:ys++zs.drop e=patchedG zs 0 xs:=e1;have el:=congrArg Ih e1;rw [Gi] at el;refine ⟨_,U,.inl ⟨U,_,SqL.of h1⟩,_,U,_,U,_,U,p,_,U,SqL.of (s1 _ _ hp),fun c1 nc1=>?_⟩
   rw [lF (s:=e) rfl];refine ⟨r,c1,_,_,U,U,L2.upN nc1 _ _ h1,eC,by omega,?_⟩;have s2:=(s1.new (o := .lst (zs.drop e)) nc1).own (o := .lst (ys++zs.drop e)) nr;refine ⟨_,U,k _ r s2 nr ?_⟩;rw [eC,e1]
theorem zN:eM ["origins","patch","first","dropped","taken"] ["origins","patch"] (defScope gJ):=mkSc
theorem Fa {f CV CH:Gf} {fd:GG} (F:Fun K "origins_by_patch" "origins_by_patch" gJ f fd) (T:TxV K mg CV CH) (G:Fn P w K mg base 11 "patched" ["old","patch"] rW):ff P w K mg base (CXF P w) 12 f fd ["origins","patch"] BV:=by
 refine okN (k:=11) F zN fun cdv A outer s H vs Q E hr h=>?_
 ·obtain ⟨p,q,zs,xs,rfl,hp,⟨ts,hq,ht⟩,xz,tz,sz,k⟩:=h
  have nd:=zN.nd;refine ⟨_,eI (eP (eV G hr U eG (eA (pv 0) (eA (qL (own:=[("first",2),("dropped",3),("taken",4)]) U nd (gr (pv 1)) (iq (N:=["origins","patch","first","dropped","taken"]) (sc:=defScope gJ) (by decide +kernel))
   (fun _ _ _ _ _=>vF (K:=K) (n:=3) U U (fw (eZ (i:=2) nd U (Gy U)) (fw (eZ (i:=3) nd U (Gy U)) (fw (eZ (i:=4) nd U (Gy U)) iX))))
   (fun _ _ _ _ _=>lX)
   (fun _ _ _ _ _=>iE (eA (pv 2) (eA (pv 3) (eA (fA yr (fP (eA mJ eF)) (eU (uU (K:=K) U) U T.len Gz (eA (pv 4) eF))) eF))))) eF)))),?_⟩
  refine ⟨_,U,_,U,q,U,⟨_,SqL.of hq⟩,fun D nD=>?_⟩
  have s0:eT H (upd H D (.lst [])):=L2.upN nD;refine nM (K:=K) (a:=q) (xs:=ts.map V.ref) (fun i H'=>eT H H'/\∃ us,H' D=some (.lst (us.map V.ref))/\us.length=i/\∀ (j:Nat) (u:Gf) (x:k9),us[j]?=some u->xs[j]?=some x->∃ c,c≠D/\H' u=some (.tup [.int x.1,.int x.2.1,.ref c])/\H' c=some (.lst (Gq x.2.2.length .non)))
   ⟨s0,[],eC,rfl,fun j u x e=>by simp at e⟩ (fun i H' _ ⟨s2,_⟩=>SqL.of (s2 _ _ hq)) ?_ ?_
  ·rintro i y H2 hx ⟨s2,us,hD,ul,pt⟩
   obtain ⟨t,ht',rfl⟩:=fz hx;obtain ⟨x,ex,c0,ec,hc0⟩:=ht.ofGet ht';obtain ⟨cs,hcs,hcl⟩:=id hc0;have hlt:=(Gj.mp ex).1;have hxz:=tz x (HG ex);refine ⟨t,_,U,SqT.of (s2 _ _ ec),U,_,_,U,_,_,U,_,_,U,U,U,li ?_⟩;refine ⟨_,rfl,_,rfl,(by show 1<=sizeLine;decide),fun n1 nn1=>?_⟩
   have t1:=L2.upN (o := .lst [V.non]) nn1;refine ⟨_,rfl,c0,_,rfl,.inl (SqL.of (t1 _ _ (s2 _ _ hcs))),n1,_,_,rfl,rfl,eC,?_,?_,?_,fun n2 nn2=>⟨(by show 3<=sizeLine;decide),fun u nu=>?_⟩⟩
   ·have:=JA (cs.map V.ref).length
    omega
   ·rw [Ge,hcl.len]
    have:sizeLine=16777216:=Hj;omega
   ·rw [Ge,hcl.len]
    show 1*(((x.2.2.length:Nat):Int)).toNat<=sizeLine;rw [HE];omega
   have er:(Gq (((cs.map V.ref).length:Nat):Int).toNat [V.non]).flatten=Gq x.2.2.length .non:=by
    rw [HE,Ge,hcl.len,EL]
   rw [er];have t2:=t1.new (o := .lst (Gq x.2.2.length .non)) nn2;rw [er] at nu;have t3:=t2.new (o := .tup [.int (x.1:Nat),.int (x.2.1:Nat),.ref n2]) nu;have n2D:n2≠D:=fun z=>by rw [z,t1 _ _ hD] at nn2;cases nn2
   refine ⟨_,t3 _ _ hD,?_,(s2.trans t3).own nD,us++[u],?_,?_,?_⟩
   ·rw [Ge,ul]
    omega
   ·rw [eC,Gr]
    rfl
   ·rw [Gi,ul]
    rfl
   ·intro j v x' e1 e2
    by_cases hj:j<us.length
    ·rw [G6 hj] at e1
     obtain ⟨c,cD,g1,g2⟩:=pt j v x' e1 e2;refine ⟨c,cD,?_,?_⟩
     ·rw [eK (fG g1 hD (by intro z;cases z))]
      exact t3 _ _ g1
     ·rw [eK cD]
      exact t3 _ _ g2
    ·have h1:=(Gj.mp e1).1
     have:j=us.length:=by simp at h1;omega
     subst this;rw [Hg (Go _)] at e1;rw [ul,ex] at e2;simp at e1 e2;subst e1 e2;have uD:u≠D:=fun z=>by rw [z,t2 _ _ hD] at nu;cases nu
     refine ⟨n2,n2D,?_,?_⟩
     ·rw [eK uD,eC]
     ·rw [eK n2D]
      exact L2.upN nu _ _ eC
  ·rintro H2 ⟨s2,us,hD,ul,pt⟩
   rw [Ge,ht.len] at ul;refine ⟨p,D,zs,xs.map noneV,U,s2 _ _ hp,⟨us,hD,by rw [Ge,ul],fun i a x e1 e2=>?_⟩,sz,fun H3 r s3 nr hr'=>k H3 r (s2.trans s3) (s2.free nr) hr'⟩
   obtain ⟨y,ey,rfl⟩:=fz e2;obtain ⟨c,_,g1,g2⟩:=pt i a y e1 ey;exact ⟨c,g1,g2⟩
def ik (n:Nat):L2.Key:=Hm (n:Int)
theorem yJ {a b:Nat} (h:ik a=ik b):a=b:=by
 unfold ik at h;injection h with h
 omega
structure qI (kvs:List (L2.Key×V)) (m:List Nat):Prop where
 eq:kvs.map (·.1)=m.map ik
 nd:m.Nodup
section
variable {kvs:List (L2.Key×V)} {m:List Nat} {n:Nat} {v:V}
theorem DP:ik n∈m.map ik↔n∈m:=by
 constructor
 ·intro h
  obtain ⟨x,hx,e⟩:=IM.mp h;rw [← yJ e];exact hx
 ·exact fun h=>JT h
theorem qI.has (h:qI kvs m):(valV kvs (ik n)).isSome=decide (n∈m):=by
 cases e:valV kvs (ik n) with
 | none =>
  have:=BM e;rw [h.eq,DP] at this;rw [Gc this];rfl
 | some x =>
  have:=Er e;rw [h.eq,DP] at this;rw [Gb this];rfl
theorem qI.len (h:qI kvs m):kvs.length=m.length:=by
 have:=congrArg Ih h.eq;rwa [Ge,Ge] at this
theorem qI.put (h:qI kvs m):∃ m',qI (putK kvs (ik n) v) m'/\(∀ x,x∈m'↔x∈m∨x=n)/\m'.length<=m.length+1:=by
 by_cases hn:n∈m
 ·refine ⟨m,⟨?_,h.nd⟩,fun x=>⟨.inl,fun z=>z.elim id fun e=>e▸hn⟩,by omega⟩
  have hs:=h.has (n:=n);rw [Gb hn] at hs;unfold putK;rw [Ga (by rw [jw];exact hs),Ic,← h.eq];apply ID;intro kv _;show (if kv.1=ik n then (kv.1,v) else kv).1=kv.1
  split <;> rfl
 ·have hs:=h.has (n:=n)
  rw [Gc hn] at hs;have hs:valV kvs (ik n)=none:=by
   cases e:valV kvs (ik n) with
   | none=>rfl
   | some x=>rw [e] at hs;cases hs
  refine ⟨m++[n],⟨?_,?_⟩,fun x=>by simp,by simp⟩
  ·rw [CN v hs,Gr,h.eq,Gr]
   rfl
  ·rw [List.nodup_append]
   refine ⟨h.nd,by simp,fun b hb c hc=>?_⟩
   rw [G7.mp hc];exact fun z=>hn (z▸hb)
end
theorem oE {h:His} {x:Nat} {v:Ver} (e:h[x]?=some v):h.parents x=vn [v.first,v.second]:=by
 unfold Gv.parents;rw [e];obtain ⟨f,s,t⟩:=v;cases f <;> cases s <;> rfl
def B8 (CV CH:Gf):Sp:=fun vs H Q _=>∃ (a vl:Gf) (as:List Gf) (h:His) (ok:Gf->Prop) (v:Nat),vs=[.ref a,.int (v:Nat)]/\fh CV CH H ok a vl as h/\WF h/\v<h.length/\h.length<=1000/\∀ (H':Hp) (d:Gf) (kvs:List (L2.Key×V)) (m:List Nat),eT H H'->H d=none->H' d=some (.dK kvs)->qI kvs m->m.length<=4000->(∀ u,u∈m↔Anc h v u)->Q (.ref d) H'
theorem Cw:eM ["self","number","found","ancestor","parent"] ["self","number"] (defScope gM):=mkSc
theorem ok_anc {f CV CH:Gf} {fd:GG} (F:Fun K "ancestors_of" "History.ancestors_of" gM f fd) (T:TxV K mg CV CH) (GB:Md P w K mg base 11 CV "both_parents" ["self"] (B5 CV)):ff P w K mg base (CXF P w) 12 f fd ["self","number"] (B8 CV CH):=by
 refine okN (k:=11) F Cw fun cdv A outer s H vs Q E hr h=>?_
 ·obtain ⟨a,vl,as,h,ok,v,rfl,hH,W,hv,hl,k⟩:=h
  have nd:=Cw.nd;have hu:=uM hr;refine ⟨_,eE (eO (i:=2) nd U (Gy U) (EX (CP (pv 1) w9 EQ) U U (by simp) (by decide)))
   (eE (gQ Hz U (AZ U T.range (eA (pv 1) (eA (uC qf eN) (eA (uC qf eN) eF)))) (eZ (i:=3) nd U (Gy U))
    (eI (fF (gP (yo hu (pv 3) (pv 2))) (eI (gQ Hz U (gr (iF (fM fm (eQ (pv 0) U) (pv 3) (fun _ _=>U)) T.clV GB hr eG)) (eZ (i:=4) nd U (Gy U))
     (eI (rh hu (pv 2) (pv 4) w9 U)))) eY)))
   (eI (eP (pv 2)))),?_⟩
  refine fun d nd'=>⟨_,rfl,eC,[(ik v,.bl true)],rfl,(by show 1<=15;decide),?_⟩
  have m0:qI (mergeK [] [(ik v,V.bl true)]) [v]:=⟨rfl,by simp⟩;have s0:eT H (upd (upd H d (.dK [])) d (.dK (mergeK [] [(ik v,V.bl true)]))):=(L2.upN nd').own nd';have e0:upd (upd H d (.dK [])) d (.dK (mergeK [] [(ik v,V.bl true)])) d=some (.dK (mergeK [] [(ik v,V.bl true)])):=eC;generalize mergeK [] [(ik v,V.bl true)]=kvs0 at m0 s0 e0 ⊢;generalize upd (upd H d (.dK [])) d (.dK kvs0)=H0 at s0 e0 ⊢;have rg:RgC (v:Int) (-1) (-1) (v+1):=by
   have:=RgC.neg (i:=(v:Int)) (j := -1) (by omega) (by omega) (by decide) (by decide);rwa [show ((v:Int)-(-1)).toNat=v+1 by omega] at this
  have szl:sizeLine=16777216:=Hj;refine ⟨_,U,_,U,_,U,(v:Int),-1,-1,v+1,U,rg,yL (lo:=(v:Int)) (c := -1) (n:=v+1) (fun i σ H'=>∃ (kvs:List (L2.Key×V)) (m:List Nat) (v3 v4:Option V),σ=[some (.ref a),some (.int (v:Nat)),some (.ref d),v3,v4]/\eT H H'/\H' d=some (.dK kvs)/\qI kvs m/\m.length<=1+2*i/\jf h v (v+1-i) m)
   ⟨kvs0,[v],none,none,rfl,s0,e0,m0,Go _,jf.start h v⟩ ?_ ?_⟩
  ·rintro i σ H1 hi ⟨kvs,m,v3,v4,rfl,s1,hd,hk,ml,an⟩
   rw [show ((v:Nat):Int)+(i:Nat)*(-1:Int)=((v-i:Nat):Int) by omega];have ea:v+1-i=(v-i)+1:=by omega
   rw [ea] at an;have eb:v+1-(i+1)=v-i:=by omega
   rw [eb];generalize hx:v-i=x at an ⊢;have xl:x<h.length:=by omega
   have hv:h[x]?=some h[x]:=Gk xl;refine ⟨_,U,_,U,d,_,U,lh.k (k:=ik x) hd,_,U,?_⟩;rw [hk.has];by_cases hm:x∈m
   ·rw [Gb hm]
    refine (Ga U).mpr ?_;obtain ⟨dh,nv,h1,h2,h3⟩:=hH.same s1;obtain ⟨b,hb,dv,lv,kv,pv',ov,_,_,v1,_⟩:=(hH.same s1).verI hv;have at_:atI (as.map V.ref) (x:Nat)=some (V.ref b):=gE (by rw [Hh,hb];rfl);refine ⟨_,U,a,CH,dh,_,_,U,h1,T.clH,T.nV,fX _ _,_,U,vl,_,_,_,U,U,SqL.of h2,at_,b,dv,_,U,v1,vf_no _ _ _ _ _ _ (by decide +kernel) (by decide +kernel) (by decide +kernel) (by decide +kernel) (by decide +kernel) (by decide +kernel),b,dv,_,_,_,_,_,_,U,v1,fun H2 r s2 nr hr'=>?_⟩
    rw [← oE hv] at hr';have pl:(h.parents x).length<=2:=by
     rw [oE hv];exact JZ _ _
    have rd:r≠d:=fun z=>by rw [z,hd] at nr;cases nr
    refine ⟨r,U,⟨_,SqL.of hr'⟩,gW (K:=K) (a:=r) (xs:=(h.parents x).map fun n=>V.int (n:Nat)) (fun j σ H'=>∃ (kvs:List (L2.Key×V)) (m':List Nat) (v4:Option V),σ=[some (.ref a),some (.int (v:Nat)),some (.ref d),some (.int (x:Nat)),v4]/\eT H H'/\H' r=some (.lst ((h.parents x).map fun n=>V.int (n:Nat)))/\H' d=some (.dK kvs)/\qI kvs m'/\m'.length<=m.length+j/\(∀ y∈m,y∈m')/\(∀ y∈m',y∈m∨y∈h.parents x)/\(∀ y∈(h.parents x).take j,y∈m'))
     ⟨kvs,m,v4,rfl,s1.trans s2,hr',s2 _ _ hd,hk,Go _,fun y hy=>hy,fun y hy => .inl hy,fun y hy=>by simp at hy⟩ (fun j σ H' _ ⟨_,_,_,_,_,hr2,_⟩=>SqL.of hr2) ?_ ?_⟩
    ·rintro j y σ H3 hy ⟨kvs',m',v4',rfl,s3,hr3,hd3,hk3,ml3,a1,a2,a3⟩
     obtain ⟨z,hz,rfl⟩:=fz hy;have jl:=(Gj.mp hz).1;obtain ⟨m'',k1,k2,k3⟩:=hk3.put (n:=z) (v := .bl true);refine ⟨_,U,_,U,d,_,U,tS.k (k:=ik z) hd3 (by rw [hk3.len];omega),_,m'',_,U,s3.own nd',?_,eC,k1,by omega,fun y hy=>(k2 y).mpr (.inl (a1 y hy)),fun y hy=>?_,fun y hy=>?_⟩
     ·rw [eK rd];exact hr3
     ·rcases (k2 y).mp hy with h | h
      ·exact a2 y h
      ·rw [h];exact .inr (HG hz)
     ·rw [HP,hz] at hy
      rcases HS.mp hy with h | h
      ·exact (k2 y).mpr (.inl (a3 y h))
      ·exact (k2 y).mpr (.inr (by simpa using h))
    ·rintro σ H3 ⟨kvs',m',v4',rfl,s3,hr3,hd3,hk3,ml3,a1,a2,a3⟩
     rw [Ge] at ml3 a3;rw [Ib] at a3;exact ⟨kvs',m',_,_,U,s3,hd3,hk3,by omega,an.add W hm a1 a2 a3⟩
   ·rw [Gc hm]
    refine (F9 (by decide)).mpr ?_;exact ⟨kvs,m,_,_,U,s1,hd,hk,by omega,an.skip hm⟩
  ·rintro σ H1 ⟨kvs,m,v3,v4,rfl,s1,hd,hk,ml,an⟩
   rw [Jz] at an;exact ⟨_,U,k H1 d kvs m s1 nd' hd hk (by omega) an.iff⟩
theorem qI.get {kvs:List (L2.Key×V)} {m:List Nat} (h:qI kvs m) {i:Nat} {k:L2.Key} {v:V} (e:kvs[i]?=some (k,v)):∃ n,m[i]?=some n/\k=ik n:=by
 have e1:(kvs.map (·.1))[i]?=some k:=by rw [Hh,e];rfl
 rw [h.eq] at e1;exact fz e1
def B6 (CV CH:Gf):Sp:=fun vs H Q _=>∃ (a vl:Gf) (as:List Gf) (h:His) (ok:Gf->Prop) (u v:Nat),vs=[.ref a,.int (u:Nat),.int (v:Nat)]/\fh CV CH H ok a vl as h/\WF h/\u<h.length/\v<h.length/\h.length<=1000/\∀ H':Hp,eT H H'->Q (optV (h.base u v)) H'
theorem zU:eM ["self","number","other","ancestors","shared","ancestor"] ["self","number","other"] (defScope g8):=mkSc
theorem Fl {f CV CH:Gf} {fd:GG} (F:Fun K "base_of" "History.base_of" g8 f fd) (T:TxV K mg CV CH) (GA:Md P w K mg base 12 CH "ancestors_of" ["self","number"] (B8 CV CH)):ff P w K mg base (CXF P w) 13 f fd ["self","number","other"] (B6 CV CH):=by
 refine okN (k:=12) F zU fun cdv A outer s H vs Q E hr h=>?_
 ·obtain ⟨a,vl,as,h,ok,u,v,rfl,hH,W,hu,hv,hl,k⟩:=h
  have nd:=zU.nd;have hun:=hr.units;refine ⟨_,eE (eO (i:=3) nd U (Or.inr U) (f6 (pv 0) T.clH GA hr eG (eA (pv 1) eF)))
   (eE (wZ (i:=4) (own:=[("ancestor",5)]) U nd U U (zi U U U U) (ES (pe_frz (f6 (pv 0) T.clH GA hr eG (eA (pv 2) eF)))) (iq (N:=["self","number","other","ancestors","shared","ancestor"]) (sc:=defScope g8) (by decide +kernel)) (fun _ _ _ _ _=>eZ (i:=5) nd U (Gy U))
    (fun _ _ _ _ _=>vB (gP (yo (KR (KJ (by decide) _) hun) (pv 5) (pv 3)))) (fun _ _ _ _ _=>pv 5))
   (eI (eP (EV U U T.max (pv 4) mJ)))),?_⟩
  have szl:sizeLine=16777216:=Hj;have no:∀ n:Int,(hf vl n).lookup ("ancestors_of":G9)=none:=fun n=>pO _ _ (by decide +kernel) (by decide +kernel)
  obtain ⟨dh,_,h1,_⟩:=id hH;refine ⟨_,U,a,dh,_,U,h1,no _,_,U,a,vl,as,h,ok,u,U,hH,W,hu,hl,fun H1 d1 kvs1 m1 s1 n1 g1 q1 l1 a1=>?_⟩
  refine ⟨_,U,a,dh,_,U,s1 _ _ h1,no _,_,U,a,vl,as,h,ok,v,U,hH.same s1,W,hv,hl,fun H2 d2 kvs2 m2 s2 n2 g2 q2 l2 a2=>?_⟩
  refine ⟨d2,kvs2,U,g2,fun od=>⟨d2,od,U,.inl ⟨kvs2,eC,fun D nD=>?_⟩⟩⟩
  have n20:H d2=none:=s1.free n2;have s02:=s1.trans s2;have ne:d1≠d2:=fun z=>by rw [← z,g1] at n2;cases n2
  have s3:eT H (upd H2 d2 (.frz od (.dK kvs2))):=s02.own n20;have nD0:H D=none:=s3.free nD;have g1':upd H2 d2 (.frz od (.dK kvs2)) d1=some (.dK kvs1):=by rw [eK ne];exact s2 _ _ g1
  have D1:D≠d1:=fun z=>by rw [z,g1'] at nD;cases nD
  have D2:D≠d2:=fun z=>by rw [z,eC] at nD;cases nD
  refine Fu (d:=d2) (o:=od) (kvs:=kvs2) (fun i H'=>eT H H'/\H' d2=some (.frz od (.dK kvs2))/\H' d1=some (.dK kvs1)/\∃ ns:List Nat,H' D=some (.lst (ns.map fun n=>V.int (n:Nat)))/\ns.length<=i/\∀ x,x∈ns↔x∈m2.take i/\x∈m1)
   ⟨s3.new nD,by rw [eK (HA D2),eC],by rw [eK (HA D1)];exact g1',[],eC,Go _,fun x=>by simp⟩ (fun i H' ⟨_,z,_⟩=>z) ?_ ?_
  ·rintro i kk vv H3 hkv ⟨s4,e2,e1,ns,eD,nl,nm⟩
   obtain ⟨n,hn,rfl⟩:=q2.get hkv;have il:=(Gj.mp hn).1;refine ⟨U,_,U,_,U,d1,_,U,lh.k (k:=ik n) e1,_,U,?_⟩;rw [q1.has];have tk:∀ x,x∈m2.take (i+1)↔x∈m2.take i∨x=n:=fun x=>by
    rw [HP,hn];simp
   by_cases hm:n∈m1
   ·rw [Gb hm]
    refine (Ga U).mpr ⟨_,U,_,eD,by rw [Ge];omega,s4.own nD0,?_,?_,ns++[n],?_,?_,fun x=>?_⟩
    ·rw [eK (HA D2)];exact e2
    ·rw [eK (HA D1)];exact e1
    ·rw [eC,Gr]
     rfl
    ·rw [Gi]
     show _+1<=_;omega
    ·rw [HS,nm,tk,G7]
     constructor
     ·rintro (h | h)
      ·exact ⟨.inl h.1,h.2⟩
      ·exact ⟨.inr h,h▸hm⟩
     ·rintro ⟨h | h,h'⟩
      ·exact .inl ⟨h,h'⟩
      ·exact .inr h
   ·rw [Gc hm]
    refine (F9 (by decide)).mpr ⟨s4,e2,e1,ns,eD,by omega,fun x=>?_⟩
    rw [nm,tk];constructor
    ·exact fun h=>⟨.inl h.1,h.2⟩
    ·rintro ⟨h | h,h'⟩
     ·exact ⟨h,h'⟩
     ·exact absurd (h▸h') hm
  ·rintro H3 ⟨s4,e2,e1,ns,eD,nl,nm⟩
   rw [q2.len,Ib] at nm;have hm:∀ x,x∈ns↔Anc h u x/\Anc h v x:=fun x=>by rw [nm,a1,a2];exact And.comm
   obtain ⟨b1,b2⟩:=Lb.mj W hu hm;refine ⟨_,U,D,ns.map fun (n:Nat)=>(n:Int),U,SqL.of (by rw [Ic];exact eD),fun e0=>?_,fun x hx hy=>?_⟩
   ·have:=k H3 s4
    rw [b1 (List.map_eq_nil_iff.mp e0)] at this;exact this
   ·obtain ⟨z,hz,rfl⟩:=IM.mp hx
    have:=k H3 s4;rw [b2 z hz fun y h=>by have:=hy _ (JT h);omega] at this
    exact this
theorem pf {α β:Type} (f:α->β) (z:List α):∀ (xs:List (Nat×Nat×List α)) (i:Nat),(patchedG z i xs).map f=patchedG (z.map f) i (xs.map fun x=>(x.1,x.2.1,x.2.2.map f))
 | [],i=>by
  show (z.drop i).map f=(z.map f).drop i;rw [Il]
 | x::xs,i=>by
  show ((z.drop i).take (x.1-i)++(x.2.2++patchedG z (x.1+x.2.1) xs)).map f=((z.map f).drop i).take (x.1-i)++(x.2.2.map f++patchedG (z.map f) (x.1+x.2.1) (xs.map fun x=>(x.1,x.2.1,x.2.2.map f)))
  rw [Gr,Gr,pf f z xs,IT,Il]
theorem whBy_V {h:His} (W:WF h) {l:List Gn} {q:Nat} {y:Ver} (hy:h[q]?=some y):(whBy h l (some q)).map optV=patchedG ((h.whence q).map fun n=>V.int (n:Nat)) 0 ((between (linesOf (Gs h q)) l).map noneV):=by
 rw [Lb.xU W hy,pf,Ic,Ic];have e:(between (linesOf (Gs h q)) l).map noneV=_:=Lb.vX V.non (linesOf (Gs h q)) l;rw [e];congr 1;apply ID;intro r _;show (r.from_,r.dropped,(Gq r.taken none).map optV)=_;rw [List.map_replicate];rfl
theorem xw:∀ B:List (Option Nat),inV .non (B.map optV)=decide (none∈B)
 | []=>rfl
 | x::B=>by
  have ih:=xw B;unfold inV at ih ⊢;rw [Hs,Km,ih];cases x with
  | none=>simp [optV,eqV]
  | some n=>simp [optV,eqV]
theorem DU (B:List (Option Nat)):(B.map optV).all pQ=true:=by
 rw [Kj];intro x hx;obtain ⟨y,_,rfl⟩:=IM.mp hx;cases y <;> rfl
def wd (CV:Gf) (H:Hp) (b:Gf) (zs:List Nat):Prop:=∃ dq fs o,H b=some (.ins CV dq fs)/\fs.lookup ("origins":G9)=some (.ref o)/\H o=some (.lst (zs.map fun n=>V.int (n:Nat)))
theorem kD.ori {CV:Gf} {H:Hp} {ok:Gf->Prop} {b:Gf} {h:His} {i:Nat} {v:Ver} {zs:List Nat} (x:kD CV H ok b h i v) (y:wd CV H b zs):∃ dx l k p o,H b=some (.ins CV dx (vf v.first v.second l k p (.ref o)))/\eS H l (linesOf v.text)/\og H ok h v p/\H o=some (.lst (zs.map fun n=>V.int (n:Nat))):=by
 obtain ⟨dx,l,k,p,o,_,_,e1,e2,e3,e4,_⟩:=x;obtain ⟨dq,fs,o',g1,g2,g3⟩:=y;rw [g1] at e1;injection e1 with e1
 injection e1 with _ e5 e6
 subst e5 e6;rw [qe] at g2;injection g2 with g2
 subst g2;exact ⟨dq,l,k,p,o',g1,e2,e4,g3⟩
theorem Fw {n i:Nat} (h:i<n):ixN n (i:Int)=some i:=by
 unfold ixN;rw [Ga (JA i),Ga (by omega),HE]
theorem EM (k:Nat) (v:V):(Gq k [v]).flatten=Gq k v:=by
 induction k with
 | zero=>rfl
 | succ k ih=>rw [Ia,JG,ih,Ia];rfl
theorem Fz {K:Gh} {H:Hp} {Q:VK} {O:Gf} {B:List (Option Nat)} {v:Nat} {v0 v1 v4 v5 v6 v7:Option V} (hO:H O=some (.lst (B.map optV))) (Bl:B.length<=100000) (q:∀ (H':Hp) (r:Gf),eT H H'->H r=none->H' r=some (.lst ((B.map fun a=>a.getD v).map fun n=>V.int (n:Nat)))->Q (.ref r) H') :
  tLc (iList K (tVar 3)) (gName 7) tYes (tIf (tB (tIsN (tVar 7))) (tVar 2) (tVar 7)) [7] [v0,v1,some (.int (v:Nat)),some (.ref O),v4,v5,v6,v7] H Q:=by
 have szl:sizeLine=16777216:=Hj;refine ⟨_,U,O,U,⟨_,SqL.of hO⟩,fun D nD=>?_⟩
 refine nM (K:=K) (a:=O) (xs:=B.map optV) (fun i H'=>eT H H'/\H' D=some (.lst (((B.take i).map fun a=>a.getD v).map fun n=>V.int (n:Nat)))) ⟨L2.upN nD,eC⟩ (fun i H' _ ⟨s1,_⟩=>SqL.of (s1 _ _ hO)) ?_ ?_
 ·rintro i x H1 hi ⟨s1,h1⟩
  obtain ⟨y,hy,rfl⟩:=fz hi;have hlt:=(Gj.mp hy).1;have et:(B.take (i+1)).map (fun a=>a.getD v)=(B.take i).map (fun a=>a.getD v)++[y.getD v]:=by
   rw [HP,hy,Gr];rfl
  have ln:(((B.take i).map fun a=>a.getD v).map fun n=>V.int (n:Nat)).length<sizeLine:=by
   rw [Ge,Ge,HF];omega
  refine ⟨U,li ?_⟩;refine ⟨_,U,_,U,?_⟩;cases y with
  | none =>
   refine (Ga U).mpr ⟨_,U,_,h1,ln,s1.own nD,?_⟩;rw [eC,et,Gr];rfl
  | some n =>
   refine (F9 (by simp [optV])).mpr ⟨_,U,_,h1,ln,s1.own nD,?_⟩;rw [eC,et,Gr];rfl
 ·rintro H1 ⟨s1,h1⟩
  rw [Ge,Ib] at h1;exact q H1 D s1 nD h1
def zB (CV CH:Gf):Sp:=fun vs H Q _=>∃ (a vl b:Gf) (as:List Gf) (h:His) (ok:Gf->Prop) (v:Nat) (x:Ver),vs=[.ref a,.ref b,.int (v:Nat)]/\fh CV CH H ok a vl as h/\gz h/\h[v]?=some x/\as[v]?=some b/\(∀ q,x.first=some q∨x.second=some q->∃ c,as[q]?=some c/\wd CV H c (h.whence q)) /\
 ∀ (H':Hp) (r:Gf),eT H H'->H r=none->H' r=some (.lst ((h.whence v).map fun n=>V.int (n:Nat)))->Q (.ref r) H'
theorem wP:eM ["self","version","number","origins","second","i","j","origin"] ["self","version","number"] (defScope gf):=mkSc
theorem Ds {f CV CH:Gf} {fd:GG} (F:Fun K "find_origins" "History.find_origins" gf f fd) (T:TxV K mg CV CH) (GO:Fn P w K mg base 12 "origins_by_patch" ["origins","patch"] BV) (GP:Fn P w K mg base 13 "kept_pairs" ["old","new"] (qW K)):ff P w K mg base (CXF P w) 14 f fd ["self","version","number"] (zB CV CH):=by
 refine okN (k:=13) F wP fun cdv A outer s H vs Q E hr h=>?_
 ·obtain ⟨a,vl,b,as,h,ok,v,x,rfl,hH,G,hx,hb,ho,k⟩:=h
  have nd:=wP.nd;have hr12:fi 12 _:=hr.mono (by decide);refine ⟨_,eE (fF (gP (jI (eQ (pv 1) U))) (eI (eP (fA yr (fP (eA (pv 2) eF)) (eU eL U T.len Gz (eA (eQ (pv 1) U) eF))))) eY)
   (eE (eO (i:=3) nd U (Gy U) (eV GO hr12 U eG (eA (eQ (fM fm (eQ (pv 0) U) (eQ (pv 1) U) (fun _ _=>U)) U) (eA (eQ (pv 1) U) eF))))
   (eE (fF (PW.pt (qu (gP (vI (eQ (pv 1) U))) (ny (eX nI mJ (pv 3) U))))
    (eE (eO (i:=4) nd U (Gy U) (fM fm (eQ (pv 0) U) (eQ (pv 1) U) (fun _ _=>U)))
    (eI (gQ Hz U (gr (eV GP hr U eG (eA (eQ (pv 4) U) (eA (eQ (pv 1) U) eF)))) (lY U (fw (eZ (i:=5) nd U (Gy U)) (fw (eZ (i:=6) nd U (Gy U)) iX)))
     (eI (fF (gP (jI (fM fm (pv 3) (pv 6) (fun _ _=>U)))) (eI (ps_asg (fM fm (eQ (pv 4) U) (pv 5) (fun _ _=>U)) (pg_sub (pv 3) (pv 6) Cc))) eY))))) eY)
   (eI (eP (qL (own:=[("origin",7)]) U nd (gr (pv 3)) (iq (N:=["self","version","number","origins","second","i","j","origin"]) (sc:=defScope gf) (by decide +kernel)) (fun _ _ _ _ _=>eZ (i:=7) nd U (Gy U)) (fun _ _ _ _ _=>lX)
    (fun _ _ _ _ _=>ko (gP (jI (pv 7))) (pv 2) (pv 7))))))),?_⟩
  have szl:sizeLine=16777216:=Hj;have W:=G.wf;have hxl:=(Gj.mp hx).1;have tl:=fL (W v x hx).2.2;have hvb:kD CV H ok b h v x:=by
   obtain ⟨b',e1,e2⟩:=hH.verI hx;rw [hb] at e1;cases e1;exact e2
  obtain ⟨dv,l,kv,p,o,_,_,v1,v2,v3,v4,_⟩:=id hvb;obtain ⟨dh,nv,h1,h2,h3⟩:=id hH;refine ⟨_,U,b,CV,dv,_,_,U,v1,T.clV,T.nF,lj _ _ _ _ _ _,_,U,?_⟩;cases hf:x.first with
  | none =>
   refine (Ga U).mpr ?_;obtain ⟨ls,e1,e2⟩:=v2;refine ⟨_,rfl,(by show 1<=sizeLine;decide),fun n1 nn1=>?_⟩
   have t1:=L2.upN (o := .lst [.int (v:Nat)]) nn1;refine ⟨_,U,b,CV,dv,_,_,U,t1 _ _ v1,T.clV,T.nL,jS _ _ _ _ _ _,l,_,U,.inl (SqL.of (t1 _ _ e1)),n1,_,_,U,U,eC,?_,?_,?_,fun r nr=>?_⟩
   ·have:=JA (ls.map V.ref).length
    omega
   ·rw [Ge,e2.len]
    omega
   ·rw [Ge,e2.len,HE]
    show 1*_<=sizeLine;omega
   refine k _ r (t1.new nr) (t1.free nr) ?_;rw [eC,HE,Ge,e2.len,EM,Lb.xS W G.fs hx hf,List.map_replicate]
  | some q =>
   refine (F9 (by simp [optV])).mpr ?_;have ql:=(W v x hx).1 q hf;have hql:q<h.length:=by omega
   have hq:h[q]?=some h[q]:=Gk hql;obtain ⟨c,hc,oc⟩:=ho q (.inl hf);have hvc:kD CV H ok c h q h[q]:=by
    obtain ⟨b',e1,e2⟩:=hH.verI hq;rw [hc] at e1;cases e1;exact e2
   obtain ⟨dc,lc,kc,pc,oq,c1,c2,c3,c4⟩:=hvc.ori oc;have at_:atI (as.map V.ref) (q:Nat)=some (V.ref c):=gE (by rw [Hh,hc];rfl);unfold og at v4;rw [hf] at v4;obtain ⟨pa,rfl,hpa⟩:=v4;have bv:=whBy_V W (l:=linesOf x.text) hq;have bl:=Lb.jv h (linesOf x.text) (some q);have bl2:=congrArg Ih bv;rw [Ge] at bl2;have tq:=fL (W q _ hq).2.2;have tx:Gs h q=h[q].text:=by
    unfold Gs;rw [hq];rfl
   have rl:=Lb.oC (linesOf (Gs h q)) (linesOf x.text);have xz:(between (linesOf (Gs h q)) (linesOf x.text)).length<sizeLine:=by
    have:(between (linesOf (Gs h q)) (linesOf x.text)).length=(runsOf (linesOf (Gs h q)) (linesOf x.text)).length:=by
     unfold Lb.between;rw [Ge]
    rw [tx] at rl this ⊢;omega
   refine ⟨_,U,a,CH,dh,_,_,U,h1,T.clH,T.nV,fX _ _,_,U,b,CV,dv,_,_,U,v1,T.clV,T.nF,(by rw [lj,hf];rfl),vl,_,_,_,U,U,SqL.of h2,at_,c,CV,dc,_,_,U,c1,T.clV,T.nO,qe _ _ _ _ _ _,_,U,b,CV,dv,_,_,U,v1,T.clV,T.nP,BK _ _ _ _ _ _,?_⟩;refine ⟨oq,pa,_,_,U,c4,hpa.to,xz,fun y hy=>?_,by omega,fun H1 O s1 nO hO=>?_⟩
   ·unfold Lb.between at hy
    obtain ⟨r,hr',rfl⟩:=IM.mp hy;have:=Lb.uz _ _ hr';have:=Lb.zW _ _ r hr';omega
   rw [← bv] at hO;generalize hA:whBy h (linesOf x.text) (some q)=A at hO bl bl2 bv;have hA':whBy h (linesOf x.text) x.first=A:=by rw [hf];exact hA
   have v1':=s1 _ _ v1;have fin:∀ (H':Hp) (B:List (Option Nat)),eT H H'->H' O=some (.lst (B.map optV))->B.length<=100000->(B.map fun a=>a.getD v)=h.whence v->∀ v4 v5 v6,tLc (iList K (tVar 3)) (gName 7) tYes (tIf (tB (tIsN (tVar 7))) (tVar 2) (tVar 7)) [7] [some (.ref a),some (.ref b),some (.int (v:Nat)),some (.ref O),v4,v5,v6,none] H' Q:=fun H' B s' e1 e2 e3 v4 v5 v6=>Fz e1 e2 fun H2 r s2 nr hr'=>k H2 r (s'.trans s2) (s'.free nr) (by rw [← e3];exact hr')
   refine ⟨_,U,b,CV,dv,_,_,U,v1',T.clV,T.nS,jR _ _ _ _ _ _,_,U,?_⟩;cases hs:x.second with
   | none =>
    refine (F9 (by simp [optV])).mpr ((F9 (by decide)).mpr ?_);refine fin H1 A s1 hO (by omega) ?_ _ _ _;rw [Lb.rM W hx hs,hA']
   | some q2 =>
    refine (Ga (by simp [optV])).mpr ?_;refine ⟨_,U,O,_,U,.inl (SqL.of hO),U,DU A,_,U,?_⟩;show (if inV .non (A.map optV)=true then _ else _)
    rw [xw];by_cases hn:none∈A
    ·rw [Gb hn]
     refine (Ga U).mpr ?_;have q2l:=(W v x hx).2.1 q2 hs;have hq2:h[q2]?=some h[q2]:=Gk (by omega);obtain ⟨c2',hc2,oc2⟩:=ho q2 (.inr hs);have hvc2:kD CV H ok c2' h q2 h[q2]:=by
      obtain ⟨b',e1,e2⟩:=hH.verI hq2;rw [hc2] at e1;cases e1;exact e2
     obtain ⟨d2,l2,k2,p2,o2,w1,w2,w3,w4⟩:=hvc2.ori oc2;have at2:atI (as.map V.ref) (q2:Nat)=some (V.ref c2'):=gE (by rw [Hh,hc2];rfl);have tx2:Gs h q2=h[q2].text:=by
      unfold Gs;rw [hq2];rfl
     have tq2:=fL (W q2 _ hq2).2.2;have wl:(h.whence q2).length=(linesOf h[q2].text).length:=Lb.ow W hq2;refine ⟨_,U,a,CH,dh,_,_,U,s1 _ _ h1,T.clH,T.nV,fX _ _,_,U,b,CV,dv,_,_,U,v1',T.clV,T.nS,(by rw [jR,hs];rfl),vl,_,_,_,U,U,SqL.of (s1 _ _ h2),at2,?_⟩;refine ⟨_,U,c2',CV,d2,_,_,U,s1 _ _ w1,T.clV,T.nL,jS _ _ _ _ _ _,_,U,b,CV,dv,_,_,U,v1',T.clV,T.nL,jS _ _ _ _ _ _,l2,l,_,_,U,w2.same s1,v2.same s1,by omega,by omega,fun H2 g s2 ng ⟨ts,hg,ob⟩=>?_⟩
     have gO:g≠O:=fun z=>by rw [z,hO] at ng;cases ng
     generalize hps:pairsOf (linesOf h[q2].text) (linesOf x.text)=ps at ob;refine ⟨g,U,⟨_,SqL.of hg⟩,gW (K:=K) (a:=g) (xs:=ts.map V.ref) (fun i σ H'=>∃ v5 v6:Option V,σ=[some (.ref a),some (.ref b),some (.int (v:Nat)),some (.ref O),some (.ref c2'),v5,v6,none]/\eT H H'/\(∀ u z,H2 u=some z->u≠O->H' u=some z)/\H' O=some (.lst ((fillAll (h.whence q2) (ps.take i) A).map optV)))
      ⟨none,none,rfl,s1.trans s2,fun u z e _=>e,s2 _ _ hO⟩ (fun i σ H' _ ⟨_,_,_,_,z,_⟩=>SqL.of (z _ _ hg gO)) ?_ ?_⟩
     ·rintro i y σ H3 hy ⟨v5,v6,rfl,s3,kk,e3⟩
      obtain ⟨t,ht,rfl⟩:=fz hy;obtain ⟨pr,hpr,et⟩:=ob.ofGet ht;have tO:t≠O:=fG et (s2 _ _ hO) (by intro z;cases z);have pm:pr∈pairsOf (linesOf h[q2].text) (linesOf x.text):=by rw [hps];exact HG hpr
      have pu:=Lb.pi _ _ _ pm;have fl:=Lb.mU (h.whence q2) (ps.take i) A;have j1:pr.2<(fillAll (h.whence q2) (ps.take i) A).length:=by rw [fl,bl];exact pu.2
      have j2:pr.1<(h.whence q2).length:=by rw [wl];exact pu.1
      have ef:fillAll (h.whence q2) (ps.take (i+1)) A=fillOne (h.whence q2) (fillAll (h.whence q2) (ps.take i) A) pr:=by
       rw [HP,hpr];exact Lb.vQ _ _ _ _
      generalize fillAll (h.whence q2) (ps.take i) A=B at e3 j1 ef;have aj:atI (B.map optV) (pr.2:Nat)=some (optV B[pr.2]):=gE (by rw [Hh,Gk j1];rfl);refine ⟨t,_,U,SqT.of (kk _ _ et tO),U,_,_,U,_,_,U,U,?_⟩;refine ⟨_,U,_,U,O,_,_,_,U,U,SqL.of e3,aj,_,U,?_⟩;have gB:B[pr.2]?=some B[pr.2]:=Gk j1;cases eB:B[pr.2] with
      | none =>
       refine (Ga U).mpr ?_;have ai:atI ((h.whence q2).map fun n=>V.int (n:Nat)) (pr.1:Nat)=some (V.int ((h.whence q2)[pr.1]:Nat)):=gE (by rw [Hh,Gk j2];rfl)
       have w1':=s3 _ _ w1;have w4':=s3 _ _ w4;refine ⟨_,U,c2',CV,d2,_,_,U,w1',T.clV,T.nO,qe _ _ _ _ _ _,_,U,o2,_,_,_,U,U,SqL.of w4',ai,?_⟩;refine ⟨_,U,_,U,O,_,_,pr.2,U,U,e3,(by rw [Ge];exact Fw j1),_,_,U,s3.own nO,fun u z e n=>?_,?_⟩
       ·rw [eK n]
        exact kk u z e n
       ·rw [eC,ef]
        unfold Lb.fillOne;rw [Ga (by rw [gB,eB]),List.map_set,Gk j2];rfl
      | some n0 =>
       refine (F9 (by simp [optV])).mpr ⟨_,_,U,s3,kk,?_⟩;rw [ef];unfold Lb.fillOne;rw [F9 (by rw [gB,eB];simp)];exact e3
     ·rintro σ H3 ⟨v5,v6,rfl,s3,kk,e3⟩
      rw [Ge,ob.len,Ib] at e3;refine fin H3 _ s3 e3 (by rw [Lb.mU];omega) ?_ _ _ _;rw [Lb.wn W hx hs,hA',tx2,hps]
    ·rw [Gc hn]
     refine (F9 (by decide)).mpr ?_;refine fin H1 A s1 hO (by omega) ?_ _ _ _;rw [Lb.wm W hx (by rw [hA'];exact hn),hA']
def Ks (as:List Gf) (H H':Hp):Prop:=∀ b o,b∉as->H b=some o->H' b=some o
theorem _root_.L2.eT.ks {as:List Gf} {H H':Hp} (s:eT H H'):Ks as H H':=fun b o _ e=>s b o e
section
variable {CV CH:Gf} {H H':Hp} {ok:Gf->Prop} {a vl b:Gf} {as:List Gf} {h:His} {i:Nat} {v:Ver}
theorem Ks.free {ok':Gf->Prop} (k:Ks as H H') (x:fh CV CH H' ok' a vl as h) {u:Gf} (n:H' u=none):H u=none:=by
 by_cases e:H u=none
 ·exact e
 ·obtain ⟨o,ho⟩:=HN.mp e
  by_cases hu:u∈as
  ·exact absurd n (x.there (by simp [hu]))
  ·rw [k u o hu ho] at n
   cases n
theorem DE {l:List Gf} (n:l.Nodup) {i j:Nat} {b:Gf} (e:l[i]?=some b) (e':l[j]?=some b):i=j:=(List.getElem?_inj (Gj.mp e).1 n).mp (e.trans e'.symm)
theorem xg {f g:Option Nat} (e:optV f=optV g):f=g:=by
 cases f with
 | none =>
  cases g with
  | none=>rfl
  | some y=>cases e
 | some x =>
  cases g with
  | none=>cases e
  | some y =>
   injection e with e
   have:x=y:=by omega
   rw [this]
theorem fh.setO (x:fh CV CH H ok a vl as h) {dx l k r:Gf} {f s:Option Nat} {p o:V} (hb:as[i]?=some b) (e:H b=some (.ins CV dx (vf f s l k p o))) (or:ok r) (hr:H r=some (.lst ((h.whence i).map fun n=>V.int (n:Nat)))):fh CV CH (upd H b (.ins CV dx (vf f s l k p (.ref r)))) ok a vl as h:=by
 obtain ⟨ba,bv⟩:=x.ver e;obtain ⟨dh,nv,e1,e2,e3⟩:=id x;have kp:Kp ok H (upd H b (.ins CV dx (vf f s l k p (.ref r)))):=⟨fun c xs _ z=>by rw [eK (fG z e (by intro z;cases z))];exact z,fun c xs z=>by rw [eK (fG z e (by intro z;cases z))];exact z⟩
 refine ⟨dh,nv,by rw [eK (HA ba)];exact e1,by rw [eK (HA bv)];exact e2,e3.len,e3.nd,fun j c u g1 g2=>?_⟩
 have z:=e3.at_ j c u g1 g2;by_cases hc:c=b
 ·subst hc
  have ij:=DE e3.nd g1 hb;subst ij;obtain ⟨dx',l',k',p',o',o1,o2,w1,w2,w3,w4,w5⟩:=z.imp (ok':=ok) (fun _ _ q=>q)
  rw [e] at w1;injection w1 with w1
  injection w1 with _ d1 d2
  have c1:=congrArg (fun q=>q.lookup ("lines":G9)) d2
  have c2:=congrArg (fun q=>q.lookup ("kept":G9)) d2
  have c3:=congrArg (fun q=>q.lookup ("patch":G9)) d2
  have c4:=congrArg (fun q=>q.lookup ("first_parent":G9)) d2
  have c5:=congrArg (fun q=>q.lookup ("second_parent":G9)) d2
  simp only [jS,kG,BK,lj,jR] at c1 c2 c3 c4 c5;injection c1 with c1
  injection c1 with c1
  injection c2 with c2
  injection c2 with c2
  injection c3 with c3
  injection c4 with c4
  injection c5 with c5
  have c6:f=u.first:=xg c4;have c7:s=u.second:=xg c5;subst d1 c1 c2 c3 c6 c7;exact ⟨dx,l,k,p,.ref r,o1,o2,eC,w2.kp o1 kp,kp.at_ _ _ o2 w3,w4.keep kp,.inr ⟨r,U,or,kp.at_ _ _ or hr⟩⟩
 ·exact z.keep kp (eK hc)
end
def wz (CV CH:Gf):Sp:=fun vs H Q _=>∃ (a vl:Gf) (as:List Gf) (h:His) (ok:Gf->Prop) (v:Nat),vs=[.ref a,.int (v:Nat)]/\fh CV CH H ok a vl as h/\gz h/\v<h.length/\∀ (H':Hp) (r:Gf),Ks as H H'->fh CV CH H' (okF H ok) a vl as h->H' r=some (.lst ((h.whence v).map fun n=>V.int (n:Nat)))->Q (.ref r) H'
theorem Ed:bootBuiltins "sorted"=some (.builtin "sorted"):=by decide +kernel
theorem uj:eM ["self","number","ancestor","version"] ["self","number"] (defScope jp):=mkSc
theorem A3 {f CV CH:Gf} {fd:GG} (F:Fun K "whence" "History.whence" jp f fd) (T:TxV K mg CV CH) (GA:Md P w K mg base 12 CH "ancestors_of" ["self","number"] (B8 CV CH)) (GF:Md P w K mg base 14 CH "find_origins" ["self","version","number"] (zB CV CH)):ff P w K mg base (CXF P w) 15 f fd ["self","number"] (wz CV CH):=by
 refine okN (k:=14) F uj fun cdv A outer s H vs Q E hr h=>?_
 ·obtain ⟨a,vl,as,h,ok,v,rfl,hH,G,hv,k⟩:=h
  have nd:=uj.nd;have hr12:fi 12 _:=hr.mono (by decide);refine ⟨_,eE (gQ Hz U (gr (eU (yQ U) U T.sorted Ed (eA (f6 (pv 0) T.clH GA hr12 eG (eA (pv 1) eF)) eF))) (eZ (i:=2) nd U (Gy U))
    (eE (eO (i:=3) nd U (Gy U) (fM fm (eQ (pv 0) U) (pv 2) (fun _ _=>U)))
    (eI (fF (gP (jI (eQ (pv 3) U))) (eI (gw (pv 3) (f6 (pv 0) T.clH GF hr eG (eA (pv 3) (eA (pv 2) eF))) U)) eY))))
   (eI (eP (eQ (fM fm (eQ (pv 0) U) (pv 1) (fun _ _=>U)) U))),?_⟩
  have W:=G.wf;have hl:=G.len;have no:∀ {m:G9} (n:Int),¬ m = "kept_size" -> ¬ m = "versions" -> (hf vl n).lookup m=none:=fun n h1 h2=>pO _ _ h1 h2
  obtain ⟨dh,nv,h1,h2,h3⟩:=id hH;refine ⟨_,U,a,dh,_,U,h1,no _ (by decide +kernel) (by decide +kernel),_,U,a,vl,as,h,ok,v,U,hH,W,hv,by omega,fun H1 d kvs m s1 n1 g1 q1 l1 a1=>?_⟩
  refine ⟨d,kvs,m.map fun (n:Nat)=>(n:Int),U,g1,by rw [q1.eq,Ic];rfl,fun ns p pm ps np=>?_⟩
  have ni:∀ z∈ns,0<=z:=fun z hz=>by
   obtain ⟨y,_,rfl⟩:=IM.mp (pm.mem_iff.mp hz);exact JA y
  obtain ⟨ms,em⟩:∃ ms:List Nat,ns=ms.map fun (n:Nat)=>(n:Int):=⟨ns.map Int.toNat,by
   rw [Ic];conv=>lhs;rw [← List.map_id ns]
   apply ID;intro z hz;exact (JY (ni z hz)).symm⟩
  subst em;have mm:∀ x:Nat,x∈ms↔Anc h v x:=fun x=>by
   have:=pm.mem_iff (a:=(x:Int));rw [← a1];constructor
   ·intro hx
    obtain ⟨y,hy,e⟩:=IM.mp (this.mp (JT hx));have:y=x:=by omega
    rw [← this];exact hy
   ·intro hx
    obtain ⟨y,hy,e⟩:=IM.mp (this.mpr (JT hx));have:y=x:=by omega
    rw [← this];exact hy
  have srt:∀ (i j x y:Nat),ms[i]?=some x->ms[j]?=some y->i<=j->x<=y:=fun i j x y e1 e2 hij=>by
   by_cases e:i=j
   ·subst e
    rw [e1] at e2;cases e2;exact Go _
   ·have il:=(Gj.mp e1).1
    have jl:=(Gj.mp e2).1;have:=List.pairwise_iff_getElem.mp ps i j (by rw [Ge];exact il) (by rw [Ge];exact jl) (by omega);rw [List.getElem_map,List.getElem_map,(Gj.mp e1).2,(Gj.mp e2).2] at this;omega
  have s2:=s1.new (o := .lst ((ms.map fun (n:Nat)=>(n:Int)).map V.int)) np
  have hp:upd H1 p (.lst ((ms.map fun (n:Nat)=>(n:Int)).map V.int)) p=some (.lst (ms.map fun n=>V.int (n:Nat))):=by rw [eC,Ic];rfl
  generalize upd H1 p (.lst ((ms.map fun (n:Nat)=>(n:Int)).map V.int))=H2 at s2 hp ⊢
  have np0:H p=none:=s1.free np;have pas:p∉as:=fun hm=>hH.there (by simp [hm]) np0
  have hH2:fh CV CH H2 (okF H ok) a vl as h:=(hH.same s2).weak (fun b _ o => .inl o) (fun z=>z.elim nv fun z=>by rw [h2] at z;cases z)
  refine ⟨p,U,⟨_,SqL.of hp⟩,gW (K:=K) (a:=p) (xs:=ms.map fun n=>V.int (n:Nat)) (fun i σ H'=>∃ v2 v3:Option V,σ=[some (.ref a),some (.int (v:Nat)),v2,v3]/\Ks as H H'/\H' p=some (.lst (ms.map fun n=>V.int (n:Nat)))/\fh CV CH H' (okF H ok) a vl as h/\∀ j x,j<i->ms[j]?=some x->∃ c,as[x]?=some c/\wd CV H' c (h.whence x))
   ⟨none,none,rfl,s2.ks,hp,hH2,fun j x z=>absurd z (Nat.not_lt_zero _)⟩ (fun i σ H' _ ⟨_,_,_,_,z,_⟩=>SqL.of z) ?_ ?_⟩
  ·rintro i y σ H3 hy ⟨v2,v3,rfl,k3,hp3,hH3,hj⟩
   obtain ⟨x,hx,rfl⟩:=fz hy;have ax:=(mm x).mp (HG hx);have xv:=ax.le W;have xl:x<h.length:=by omega
   have hxv:h[x]?=some h[x]:=Gk xl;obtain ⟨c,hc,vc⟩:=hH3.verI hxv;obtain ⟨dc,lc,kc,pc,oc,o1,o2,w1,w2,w3,w4,w5⟩:=id vc;obtain ⟨dh3,nv3,e1,e2,e3⟩:=id hH3;have at_:atI (as.map V.ref) (x:Nat)=some (V.ref c):=gE (by rw [Hh,hc];rfl);refine ⟨_,U,a,CH,dh3,_,_,U,e1,T.clH,T.nV,fX _ _,_,U,vl,_,_,_,U,U,SqL.of e2,at_,?_⟩;refine ⟨_,U,c,CV,dc,_,_,U,w1,T.clV,T.nO,qe _ _ _ _ _ _,_,U,?_⟩;rcases w5 with rfl | ⟨oa,rfl,g1',g2'⟩
   ·refine (Ga U).mpr ?_
    have par:∀ q,h[x].first=some q∨h[x].second=some q->∃ c,as[q]?=some c/\wd CV H3 c (h.whence q):=fun q hq=>by
     have hqp:q∈h.parents x:=by
      rw [oE hxv];unfold vn;rcases hq with hq | hq <;> simp [hq]
     have qx:=Lb.l8 W hqp;obtain ⟨j,ej⟩:=Jl ((mm q).mpr (ax.par hqp));refine hj j q ?_ ej;by_cases hij:j<i
     ·exact hij
     ·have:=srt i j x q hx ej (by omega)
      omega
    refine ⟨_,U,a,dh3,_,U,e1,no _ (by decide +kernel) (by decide +kernel),_,U,_,U,a,vl,c,as,h,_,x,h[x],U,hH3,G,hxv,hc,par,fun H4 r s4 nr hr'=>?_⟩
    have w1':=s4 _ _ w1;refine ⟨_,rfl,c,CV,dc,_,rfl,w1',T.clV,T.nO,(by show 6<1000;decide),?_⟩;rw [vf_put];have okr:okF H ok r := .inr (k3.free hH3 nr);have hH5:=(hH3.same s4).setO hc w1' okr hr';have cas:c∈as:=HG hc;refine ⟨_,_,U,fun b o nb e=>?_,?_,hH5,fun j z hji ez=>?_⟩
    ·have bc:b≠c:=fun z=>nb (by rw [z];exact cas)
     rw [eK bc];exact s4 _ _ (k3 b o nb e)
    ·have bc:p≠c:=fun z=>pas (by rw [z];exact cas)
     rw [eK bc];exact s4 _ _ hp3
    ·by_cases hzx:z=x
     ·subst hzx
      exact ⟨c,hc,dc,_,r,eC,qe _ _ _ _ _ _,by rw [eK (fG hr' w1' (by intro z;cases z))];exact hr'⟩
     ·have hji':j<i:=by
       by_cases e:j=i
       ·subst e
        rw [hx] at ez;cases ez;exact absurd U hzx
       ·omega
      obtain ⟨c',hc',d',fs',o',f1,f2,f3⟩:=hj j z hji' ez;have cc:c'≠c:=fun q=>hzx (DE e3.nd hc' (q▸hc))
      exact ⟨c',hc',d',fs',o',by rw [eK cc];exact s4 _ _ f1,f2,by rw [eK (fG (s4 _ _ f3) w1' (by intro z;cases z))];exact s4 _ _ f3⟩
   ·refine (F9 (by simp)).mpr ⟨_,_,U,k3,hp3,hH3,fun j z hji ez=>?_⟩
    by_cases e:j=i
    ·subst e
     rw [hx] at ez;cases ez;exact ⟨c,hc,dc,_,oa,w1,qe _ _ _ _ _ _,g2'⟩
    ·exact hj j z (by omega) ez
  ·rintro σ H3 ⟨v2,v3,rfl,k3,hp3,hH3,hj⟩
   rw [Ge] at hj;obtain ⟨j,ej⟩:=Jl ((mm v).mpr .refl);obtain ⟨c,hc,dc,fs,oa,f1,f2,f3⟩:=hj j v (Gj.mp ej).1 ej;obtain ⟨dh3,nv3,e1,e2,e3⟩:=id hH3;have at_:atI (as.map V.ref) (v:Nat)=some (V.ref c):=gE (by rw [Hh,hc];rfl);refine ⟨_,U,a,CH,dh3,_,_,U,e1,T.clH,T.nV,fX _ _,_,U,vl,_,_,_,U,U,SqL.of e2,at_,c,CV,dc,_,_,U,f1,T.clV,T.nO,f2,?_⟩;exact k H3 oa k3 hH3 f3
def BU:Sp:=fun vs H Q _=>∃ f:Option Nat,vs=[optV f]/\∀ (H':Hp) (l:Gf),eT H H'->H l=none->H' l=some (.lst ((HR 4 (parentNum f)).map vb))->Q (.ref l) H'
def wE (CV CH:Gf):Sp:=fun vs H Q _=>∃ (a vl:Gf) (as:List Gf) (h:His) (ok:Gf->Prop),vs=[.ref a]/\fh CV CH H ok a vl as h/\gz h/\∀ (H':Hp) (r:Gf),eT H H'->H r=none->H' r=some (.lst (h.bytes.map vb))->Q (.ref r) H'
theorem DW {h:His} {i:Nat} {x:Ver} (g:His) (e:h[i]?=some x):(h.take (i+1)).flatMap (encV g)=(h.take i).flatMap (encV g)++encV g x:=by
 rw [HP,e,Jq];simp
theorem EB:eM ["parent"] ["parent"] (defScope jY):=mkSc
theorem E9 {f:Gf} {fd:GG} (F:Fun K "parent_bytes" "parent_bytes" jY f fd) (TH:TxH K mg) (G:Fn P w K mg base 11 "four_bytes" ["number"] (vx K)):ff P w K mg base (CXF P w) 12 f fd ["parent"] BU:=by
 refine okN (k:=11) F EB fun cdv A outer s H vs Q E hr h=>?_
 ·obtain ⟨f,rfl,q⟩:=h
  refine ⟨_,eI (eP (eV G hr U eG (eA (ko (gP (jI (pv 0))) (fO TH.noParent U) (pv 0)) eF))),?_⟩;refine ⟨_,U,_,U,?_⟩;cases f with
  | none=>exact (Ga rfl).mpr ⟨4294967295,rfl,q⟩
  | some n=>exact (F9 (by simp [optV])).mpr ⟨_,rfl,n,rfl,q⟩
theorem ut:eM ["history","row","version"] ["history"] (defScope jF):=mkSc
theorem Ba {f CV CH:Gf} {fd:GG} (F:Fun K "history_bytes" "history_bytes" jF f fd) (TH:TxH K mg) (T:TxV K mg CV CH) (G:Fn P w K mg base 11 "four_bytes" ["number"] (vx K)) (GP:Fn P w K mg base 12 "parent_bytes" ["parent"] BU):ff P w K mg base (CXF P w) 13 f fd ["history"] (wE CV CH):=by
 refine okN (k:=12) F ut fun cdv A outer s H vs Q E hr h=>?_
 ·obtain ⟨a,vl,as,h,ok,rfl,hH,GH,k⟩:=h
  have nd:=ut.nd;have hr11:fi 11 _:=hr.mono (by decide);refine ⟨_,eE (eO (i:=1) nd U (Gy U) (fA l9 (ly pV U TH.list L8 (eA (Aa TH.hhead U) eF)) (eV G hr11 U eG (eA (eU eL U T.len Gz (eA (eQ (pv 0) U) eF)) eF))))
   (eE (gQ Hz U (gr (eQ (pv 0) U)) (eZ (i:=2) nd U (Gy U))
    (eE (fe (gm Gw Hc Hb fQ (pv 1) (eA (eV GP hr U eG (eA (eQ (pv 2) U) eF)) eF)))
    (eE (fe (gm Gw Hc Hb fQ (pv 1) (eA (eV GP hr U eG (eA (eQ (pv 2) U) eF)) eF)))
    (eE (fe (gm Gw Hc Hb fQ (pv 1) (eA (eV G hr11 U eG (eA (eU eL U T.len Gz (eA (eQ (pv 2) U) eF)) eF)) eF)))
    (eI (fe (gm Gw Hc Hb fQ (pv 1) (eA (eQ (pv 2) U) eF))))))))
   (eI (eP (pv 1)))),?_⟩
  have szl:sizeLine=16777216:=Hj;obtain ⟨dh,nv,h1,h2,h3⟩:=id hH;have bl:=Lb.uV GH;rw [Lb.tj,Gi,Gi,Lb.gg] at bl;refine fun ha hha=>⟨ha,_,U,.inr (hha _),fun l nl=>?_⟩
  have s0:eT H (upd H l (.lst ((Hw "SWVH").map vb))):=L2.upN nl;refine ⟨_,U,a,CH,dh,_,_,U,s0 _ _ h1,T.clH,T.nV,fX _ _,vl,_,U,.inl (SqL.of (s0 _ _ h2)),h.length,by rw [Ge,h3.len];rfl,fun H1 m s1 nm hm=>?_⟩
  have h4:(HR 4 h.length).length=4:=Lb.gg _;refine ⟨l,m,_,_,U,U,s1 _ _ eC,hm,?_,fun r nr=>?_⟩
  ·rw [Ge,Ge,h4,Hj]
   decide
  have s01:=(s0.trans s1).new (o := .lst ((Hw "SWVH").map vb++(HR 4 h.length).map vb)) nr;have nr0:H r=none:=(s0.trans s1).free nr;refine ⟨_,U,a,CH,dh,_,_,U,s01 _ _ h1,T.clH,T.nV,fX _ _,vl,U,⟨_,SqL.of (s01 _ _ h2)⟩,gW (K:=K) (a:=vl) (xs:=as.map V.ref) (fun i σ H'=>∃ v2:Option V,σ=[some (.ref a),some (.ref r),v2]/\eT H H'/\H' r=some (.lst ((Hw "SWVH" ++ (HR 4 h.length++(h.take i).flatMap (encV h))).map vb)))
   ⟨none,rfl,s01,?_⟩ (fun i σ H' _ ⟨_,_,s1,_⟩=>SqL.of (s1 _ _ h2)) ?_ ?_⟩
  ·rw [eC,← Gr]
   simp
  ·rintro i y σ H2 hi ⟨v2,rfl,s2,hr2⟩
   obtain ⟨c,hc,rfl⟩:=fz hi;have il:i<h.length:=by rw [← h3.len];exact (Gj.mp hc).1
   have hx:h[i]?=some h[i]:=Gk il;obtain ⟨dv,lv,kv,pv',ov,_,_,v1,_,v3,_⟩:=h3.at_ i c _ hc hx;have ft:=DW h hx;have fl:((h.take (i+1)).flatMap (encV h)).length<=(h.flatMap (encV h)).length:=by
    have e:=congrArg (fun q=>(q.flatMap (encV h)).length) (JE (i+1) h)
    simp only [Jq,Gi] at e;omega
   have el:=Lb.xC h h[i];rw [ft,Gi,el] at fl;rw [ft];generalize h[i]=x at v1 v3 fl el ft ⊢;have eb:Hw "SWVH" ++ (HR 4 h.length++((h.take i).flatMap (encV h)++encV h x))=((((Hw "SWVH" ++ (HR 4 h.length++(h.take i).flatMap (encV h)))++HR 4 (parentNum x.first))++HR 4 (parentNum x.second))++HR 4 (h.kept x).length)++h.kept x:=by
    unfold Lb.encV;simp only [Hx]
   rw [eb];have B0:(Hw "SWVH" ++ (HR 4 h.length++(h.take i).flatMap (encV h))).length+12+(h.kept x).length<=1200000:=by
    rw [Gi,Gi,Lb.gg];omega
   generalize Hw "SWVH" ++ (HR 4 h.length++(h.take i).flatMap (encV h))=B at hr2 B0 ⊢;have l4:∀ n,(HR 4 n).length=4:=Lb.gg;refine ⟨_,U,.inl ⟨U,_,SqL.of hr2⟩,_,U,c,CV,dv,_,_,U,s2 _ _ v1,T.clV,T.nF,lj _ _ _ _ _ _,_,U,fun H3 f1 s3 n3 e3=>?_⟩
   refine ⟨r,f1,_,_,U,U,s3 _ _ hr2,e3,by rw [Ge,Ge,l4];omega,?_⟩;have k3:=(s2.trans s3).own (o := .lst (B.map vb++(HR 4 (parentNum x.first)).map vb)) nr0;have r3:upd H3 r (.lst (B.map vb++(HR 4 (parentNum x.first)).map vb)) r=some (.lst ((B++HR 4 (parentNum x.first)).map vb)):=by rw [eC,Gr]
   generalize upd H3 r (.lst (B.map vb++(HR 4 (parentNum x.first)).map vb))=H4 at k3 r3 ⊢;have B1:(B++HR 4 (parentNum x.first)).length+8+(h.kept x).length<=1200000:=by rw [Gi,l4];omega
   generalize B++HR 4 (parentNum x.first)=B' at r3 B1 ⊢;refine ⟨_,U,.inl ⟨U,_,SqL.of r3⟩,_,U,c,CV,dv,_,_,U,k3 _ _ v1,T.clV,T.nS,jR _ _ _ _ _ _,_,U,fun H5 f2 s5 n5 e5=>?_⟩
   refine ⟨r,f2,_,_,U,U,s5 _ _ r3,e5,by rw [Ge,Ge,l4];omega,?_⟩;have k5:=(k3.trans s5).own (o := .lst (B'.map vb++(HR 4 (parentNum x.second)).map vb)) nr0;have r5:upd H5 r (.lst (B'.map vb++(HR 4 (parentNum x.second)).map vb)) r=some (.lst ((B'++HR 4 (parentNum x.second)).map vb)):=by rw [eC,Gr]
   generalize upd H5 r (.lst (B'.map vb++(HR 4 (parentNum x.second)).map vb))=H6 at k5 r5 ⊢;have B2:(B'++HR 4 (parentNum x.second)).length+4+(h.kept x).length<=1200000:=by rw [Gi,l4];omega
   generalize B'++HR 4 (parentNum x.second)=B'' at r5 B2 ⊢;refine ⟨_,U,.inl ⟨U,_,SqL.of r5⟩,_,U,c,CV,dv,_,_,U,k5 _ _ v1,T.clV,T.nK,kG _ _ _ _ _ _,kv,_,U,.inl (SqL.of (k5 _ _ v3)),(h.kept x).length,by rw [Ge];rfl,fun H7 f3 s7 n7 e7=>?_⟩
   refine ⟨r,f3,_,_,U,U,s7 _ _ r5,e7,by rw [Ge,Ge,l4];omega,?_⟩;have k7:=(k5.trans s7).own (o := .lst (B''.map vb++(HR 4 (h.kept x).length).map vb)) nr0;have r7:upd H7 r (.lst (B''.map vb++(HR 4 (h.kept x).length).map vb)) r=some (.lst ((B''++HR 4 (h.kept x).length).map vb)):=by rw [eC,Gr]
   generalize upd H7 r (.lst (B''.map vb++(HR 4 (h.kept x).length).map vb))=H8 at k7 r7 ⊢;have B3:(B''++HR 4 (h.kept x).length).length+(h.kept x).length<=1200000:=by rw [Gi,l4];omega
   generalize B''++HR 4 (h.kept x).length=B3' at r7 B3 ⊢;refine ⟨_,U,.inl ⟨U,_,SqL.of r7⟩,_,U,c,CV,dv,_,_,U,k7 _ _ v1,T.clV,T.nK,kG _ _ _ _ _ _,r,kv,_,_,U,U,r7,k7 _ _ v3,by rw [Ge,Ge];omega,_,U,k7.own nr0,?_⟩;rw [eC,Gr]
  ·rintro σ H1 ⟨v2,rfl,s1,e1⟩
   refine ⟨_,U,k H1 r s1 nr0 ?_⟩;rw [e1,Ge,h3.len,Ib,Lb.tj]
end Lp
namespace Lp
open PySem PySem.Spec PyProof.Rows L2
open Sw (Bytes ofLe)
open SwVersion (linesOf joinedL isText KEPT VERSIONS readHistory patchOf)
open Lb (fj WF gz)
open VersionNs (Answer says tells gives wrong on parentOf parentNum State large step onHistory)
open VersionNeutral (numbersOf text natural asked1 callOf nats)
open PyWqaecr (whole shape)
open PyFlat (told played)
variable {P:Hk} {w:Hy} {K:Gh} {mg:G9->Option Gg} {base:GZ}
theorem pt_imp {X:Cx} {c:HM} {t t':TT} (h:PT X c t) (g:∀ σ H Q,t' σ H Q->t σ H Q):PT X c t':=fun pins s σ H Q I hw=>h pins s σ H Q I (g _ _ _ hw)
def qc (CV CH:Gf) (H:Hp) (ok:Gf->Prop) (a vl:Gf) (as:List Gf) (Q:VK) (R:KS×His):Prop:=∀ (H':Hp) (c:Gf) (as':List Gf),(∀ b o,b∉a::vl::as->H b=some o->H' b=some o)->(∀ x∈as',x∈as∨H x=none)->fh CV CH H' (okF H ok) a vl as' R.2->H c=none->lI H' c R.1->Q (.ref c) H'
section
variable {CV CH:Gf} {H H':Hp} {ok:Gf->Prop} {a vl c:Gf} {as:List Gf} {h:His} {Q:VK} {R:KS×His}
theorem fh.okf (x:fh CV CH H' ok a vl as h) (n:H vl≠none):fh CV CH H' (okF H ok) a vl as h:=x.weak (fun _ _ o => .inl o) fun z=>z.elim x.nokv n
theorem qc.same (k:qc CV CH H ok a vl as Q R) (x:fh CV CH H ok a vl as h) (e:R.2=h) (s:eT H H') (n:H c=none) (ha:lI H' c R.1):Q (.ref c) H':=k H' c as (fun b o _ z=>s b o z) (fun y hy => .inl hy) (by rw [e];exact (x.same s).okf (x.there (by simp))) n ha
theorem qc.of {H1:Hp} (k:qc CV CH H ok a vl as Q R) (s:eT H H1) (hv:H vl≠none):qc CV CH H1 (okF H ok) a vl as Q R:=fun H' c as' b g x n ha=>k H' c as' (fun b' o nb e=>b b' o nb (s _ _ e)) (fun y hy=>(g y hy).imp id fun z=>s.free z) (x.weak (fun b _ o=>o.elim id fun z => .inr (s.free z)) fun z=>x.nokv (.inl z)) (s.free n) ha
end
def FT:Sp:=fun vs H Q _=>∃ n:Nat,vs=[.int (n:Nat)]/\Q (optV (parentOf n)) H
def FU:Sp:=fun vs H Q _=>∃ f:Option Nat,vs=[optV f]/\Q (.int (parentNum f:Nat)) H
def FR (CV CH:Gf):Sp:=fun vs H Q _=>∃ (a vl r:Gf) (as:List Gf) (h:His) (ok:Gf->Prop) (p q:Nat) (b:Gn),vs=[.ref a,.int (p:Nat),.int (q:Nat),.ref r]/\fh CV CH H ok a vl as h/\gz h/\H r=some (.lst (b.map vb))/\isText b=true/\qc CV CH H ok a vl as Q (on h (.put 0 p q b))
def B9 (CV:Gf):Sp:=fun vs H Q _=>∃ (c dx:Gf) (f s:Option Nat) (l k:Gf) (p o:V),vs=[.ref c]/\H c=some (.ins CV dx (vf f s l k p o))/\∀ (H':Hp) (r:Gf),eT H H'->H r=none->lI H' r (tells 0 [parentNum f,parentNum s])->Q (.ref r) H'
def aBase (h:His) (u v:Nat):KS:=match h.base u v with
 | some x=>says (x:Nat)
 | none=>says (-3)
def zH (CV CH:Gf):Sp:=fun vs H Q _=>∃ (a vl:Gf) (as:List Gf) (h:His) (ok:Gf->Prop) (u v:Nat),vs=[.ref a,.int (u:Nat),.int (v:Nat)]/\fh CV CH H ok a vl as h/\gz h/\u<h.length/\v<h.length/\∀ (H':Hp) (r:Gf),eT H H'->H r=none->lI H' r (aBase h u v)->Q (.ref r) H'
def uh (CV CH:Gf):Sp:=fun vs H Q _=>∃ (a vl:Gf) (as:List Gf) (h:His) (ok:Gf->Prop) (v:Nat),vs=[.ref a,.int (v:Nat)]/\fh CV CH H ok a vl as h/\gz h/\v<h.length/\qc CV CH H ok a vl as Q (tells ((h.whence v).length:Nat) (h.whence v),h)
def tPar:TT:=fun σ H Q=>∃ p q:Nat,σ[1]?=some (some (.int (p:Nat)))/\σ[2]?=some (some (.int (q:Nat)))/\∀ H':Hp,eT H H'->Q (decide (0<q/\(p=0∨p=q))) H'
theorem inV2 (p q:Nat):inV (.int (p:Nat)) [.int 0,.int (q:Nat)]=decide (p=0∨p=q):=by
 show (((0:Int) == (p:Nat)) || (((q:Nat):Int) == (p:Nat) || false))=_;rw [Jf,Kz];simp only [Bool.or_eq_true,beq_iff_eq,decide_eq_true_eq];omega
theorem sc_pfc:eM ["number"] ["number"] (defScope iy):=mkSc
theorem ok_pfc {f:Gf} {fd:GG} (F:Fun K "parent_from_call" "parent_from_call" iy f fd):ff P w K mg base (CXF P w) 1 f fd ["number"] FT:=by
 refine okN (k:=0) F sc_pfc fun cdv A outer s H vs Q E hr h=>?_
 ·obtain ⟨n,rfl,q⟩:=h
  refine ⟨_,eI (eP (ko (eX io (pv 0) eN (fb _)) mJ (fA iG (pv 0) eN))),?_⟩;refine ⟨_,U,U,_,U,?_⟩;unfold Jb at q;refine gh (fun g=>?_) (fun g=>?_)
  ·have g:n=0:=by
    have g:=Gd g;injection g with g
    omega
   rw [Ga g] at q;exact q
  ·have g:¬ n=0:=fun z=>g (Gb (by rw [z];rfl))
   rw [F9 g] at q;refine ⟨_,U,_,_,U,U,?_⟩;have e:((n:Nat):Int)-1=((n-1:Nat):Int):=by omega
   show Q (V.int (((n:Nat):Int)-1)) H;rw [e];exact q
theorem sc_pfa:eM ["parent"] ["parent"] (defScope ii):=mkSc
theorem ok_pfa {f:Gf} {fd:GG} (F:Fun K "parent_for_answer" "parent_for_answer" ii f fd):ff P w K mg base (CXF P w) 1 f fd ["parent"] FU:=by
 refine okN (k:=0) F sc_pfa fun cdv A outer s H vs Q E hr h=>?_
 ·obtain ⟨n,rfl,q⟩:=h
  refine ⟨_,eI (eP (ko (gP (jI (pv 0))) eN (fA gx (pv 0) eN))),?_⟩;refine ⟨_,U,_,U,?_⟩;cases n with
  | none=>exact (Ga rfl).mpr q
  | some n=>exact (F9 (by simp [optV])).mpr ⟨_,rfl,_,_,rfl,rfl,q⟩
theorem Ci:eM ["history","first","second","row","version"] ["history","first","second","row"] (defScope lS):=mkSc
theorem ok_put {f CV CH:Gf} {fd:GG} (F:Fun K "answer_put" "answer_put" lS f fd) (T:TxS K mg) (TV:TxV K mg CV CH) (GN:Fn P w K mg base 2 "number_answer" ["number"] qJ) (GU:Md P w K mg base 1 CH "is_full" ["self"] (zA CV CH)) (GR:Md P w K mg base 1 CH "has_room_for" ["self","size"] (vp CV CH))
  (GM:Md P w K mg base 16 CH "make_version" ["self","first_parent","second_parent","lines"] (vt CV CH)) (GA:Md P w K mg base 1 CH "add_version" ["self","version"] (r9 CV CH)) (GF:Fn P w K mg base 1 "parent_from_call" ["number"] FT) (GS:Fn P w K mg base 11 "split_lines" ["row"] (oY K)) :
  ff P w K mg base (CXF P w) 17 f fd ["history","first","second","row"] (FR CV CH):=by
 refine okN (k:=16) F Ci fun cdv A outer s H vs Q E hr h=>?_
 ·obtain ⟨a,vl,r,as,h,ok,p,q,b,rfl,hH,G,hb,tb,k⟩:=h
  have nd:=Ci.nd;have hr1:fi 1 _:=hr.mono (by decide);have hr2:fi 2 _:=hr.mono (by decide);have hr11:fi 11 _:=hr.mono (by decide);refine ⟨_,eE (fF (pt_imp (t':=tPar) (PW.pt (qu (eX jg (pv 2) eN (fb _)) (ny (eX nI (pv 1) (iE (eA eN (eA (pv 2) eF))) U)))) ?rd) (eI (eP (eV GN hr2 U eG (eA (fO T.parents U) eF)))) eY)
   (eE (fF (eX jg (eU (BB U) U T.max boot_max (eA (pv 1) (eA (pv 2) eF))) (eU eL U T.len Gz (eA (eQ (pv 0) U) eF)) (fb _)) (eI (eP (eV GN hr2 U eG (eA (fO T.noVersion U) eF)))) eY)
   (eE (fF (kj (iF (pv 0) TV.clH GU hr1 eG)) (eI (eP (eV GN hr2 U eG (eA (fO T.noRoom U) eF)))) eY)
   (eE (eO (i:=4) nd U (Gy U) (f6 (pv 0) TV.clH GM hr eG (eA (eV GF hr1 U eG (eA (pv 1) eF)) (eA (eV GF hr1 U eG (eA (pv 2) eF)) (eA (eV GS hr11 U eG (eA (pv 3) eF)) eF)))))
   (eE (fF (vC (kj (f6 (pv 0) TV.clH GR hr1 eG (eA (eU eL U T.len Gz (eA (eQ (pv 4) U) eF)) eF)))) (eI (eP (eV GN hr2 U eG (eA (fO T.noRoom U) eF)))) eY)
   (eE (fe (f6 (pv 0) TV.clH GA hr1 eG (eA (pv 4) eF)))
   (eI (eP (eV GN hr2 U eG (eA (fA iG (eU eL U T.len Gz (eA (eQ (pv 0) U) eF)) eN) eF))))))))),?_⟩
  case rd =>
   rintro σ H0 Q0 ⟨p,q,e1,e2,k0⟩
   refine ⟨_,e2,_,_,U,U,_,U,?_⟩;refine gh (fun g=>?_) (fun g=>?_)
   ·have g:(0:Int)<(q:Nat):=Gd g
    refine ⟨_,e1,_,e2,(by show 2<=sizeLine;decide),fun t nt=>⟨t,_,rfl,.inr (SqT.of eC),rfl,rfl,_,rfl,?_⟩⟩
    have:=k0 _ (L2.upN (o := .tup [.int 0,.int (q:Nat)]) nt);rw [show decide (0<q/\(p=0∨p=q))=inV (.int (p:Nat)) [.int 0,.int (q:Nat)] by
     rw [inV2];exact decide_eq_decide.mpr ⟨fun z=>z.2,fun z=>⟨by omega,z⟩⟩] at this
    exact this
   ·have g:¬ (0:Int)<(q:Nat):=fun z=>g (Gb z)
    have:=k0 H0 (eT.refl H0);rw [Gc (fun z=>g (by have:=z.1;omega))] at this
    exact this
  have W:=G.wf;have hl:=G.len;have szl:sizeLine=16777216:=Hj;have no:∀ {m:G9} (n:Int),¬ m = "kept_size" -> ¬ m = "versions" -> (hf vl n).lookup m=none:=fun n h1 h2=>pO _ _ h1 h2
  have hvl:H vl≠none:=hH.there (by simp);have one:on h (.put 0 p q b)=_:=rfl;conv at one=>rhs;unfold VersionNs.on
  simp only at one;refine ⟨p,q,U,U,fun H1 s1=>?_⟩
  have k1:=k.of s1 hvl;have hH1:=(hH.same s1).okf hvl;replace hb:=s1 _ _ hb;clear k hH hvl s1;generalize okF H ok=ok1 at k1 hH1;by_cases g1:0<q/\(p=0∨p=q)
  ·rw [Gb g1]
   rw [Ga (by omega)] at one;rw [one] at k1;exact (Ga U).mpr ⟨_,U,fun H2 c s2 nc hc=>k1.same hH1 U s2 nc hc⟩
  rw [Gc g1];refine (F9 (by decide)).mpr ?_;rw [F9 (by omega)] at one;obtain ⟨dh,nv,h1,h2,h3⟩:=id hH1;refine ⟨_,U,_,U,(p:Int),(q:Int),U,_,U,a,CH,dh,_,_,U,h1,TV.clH,TV.nV,fX _ _,vl,_,U,.inl (SqL.of h2),_,_,U,U,_,U,?_⟩;rw [Ge,h3.len];refine gh (fun g2=>?_) (fun g2=>?_)
  ·have g2:((h.length:Nat):Int)<(if (q:Int)>(p:Int) then (q:Int) else (p:Int)):=Gd g2
   rw [Ga (by split at g2 <;> omega)] at one
   rw [one] at k1;exact ⟨_,U,fun H2 c s2 nc hc=>k1.same hH1 U s2 nc hc⟩
  have g2:¬ ((h.length:Nat):Int)<(if (q:Int)>(p:Int) then (q:Int) else (p:Int)):=fun z=>g2 (Gb z)
  have g2':p<=h.length/\q<=h.length:=by split at g2 <;> omega
  rw [F9 (by omega)] at one;refine ⟨_,U,a,dh,_,U,h1,no _ (by decide +kernel) (by decide +kernel),a,vl,as,h,ok1,U,hH1,_,U,?_⟩;by_cases g3:64<=h.length
  ·rw [Gb g3]
   rw [Ga (.inl (show K5<=_ from g3))] at one;rw [one] at k1;exact (Ga U).mpr ⟨_,U,fun H2 c s2 nc hc=>k1.same hH1 U s2 nc hc⟩
  rw [Gc g3];refine (F9 (by decide)).mpr ?_;have bz:=iM tb;have po:∀ n x:Nat,n<=h.length->parentOf n=some x->x<h.length:=fun n x hn e=>by
   unfold Jb at e;split at e
   ·cases e
   ·cases e
    omega
  refine ⟨_,U,a,dh,_,U,h1,no _ (by decide +kernel) (by decide +kernel),_,U,p,U,_,U,q,U,_,U,r,b,U,SqL.of hb,by omega,fun H2 l s2 nl hl'=>?_⟩
  refine ⟨a,vl,as,h,ok1,⟨parentOf p,parentOf q,b⟩,l,U,hH1.same s2,W,fun x hx=>po p x g2'.1 hx,tb,hl',fun H3 v s3 nv' hv=>?_⟩
  have s13:=s2.trans s3;have hH3:=hH1.same s13;obtain ⟨dv,kk,pp,o1,v1,v2,v3,v4⟩:=id hv;obtain ⟨dh3,_,h13,_⟩:=id hH3;refine ⟨_,U,a,dh3,_,U,h13,no _ (by decide +kernel) (by decide +kernel),_,U,v,CV,dv,_,_,U,v1,TV.clV,TV.nK,kG _ _ _ _ _ _,kk,_,U,.inl (SqL.of v3),a,vl,as,h,ok1,(Ir h ⟨parentOf p,parentOf q,b⟩).length,by rw [Ge];rfl,hH3,_,U,?_⟩;by_cases g4:h.size+(Ir h ⟨parentOf p,parentOf q,b⟩).length<=1048576
  ·rw [Gb g4]
   refine (F9 (by decide)).mpr ?_;rw [F9 (by unfold K5 KEPT;omega)] at one;rw [one] at k1;have fr:∀ u,H2 u=none->H1 u=none:=fun u nu=>s2.free nu
   have hvl1:H1 vl≠none:=hH1.there (by simp);have hH3':=hH3.okf hvl1;have nv1:H1 v=none:=fr v nv';have vas:v∉as:=fun hm=>hH1.there (by simp [hm]) nv1
   have W':WF (h++[⟨parentOf p,parentOf q,b⟩]):=W.snoc (fun x hx=>po p x g2'.1 hx) (fun x hx=>po q x g2'.2 hx) tb
   refine ⟨_,U,a,dh3,_,U,h13,no _ (by decide +kernel) (by decide +kernel),_,U,a,vl,v,l,as,h,⟨parentOf p,parentOf q,b⟩,okF H1 ok1,U,hH3',W,W',fun x hx=>po p x g2'.1 hx,hv.imp (fun u _ nu => .inr (fr u nu)),.inr nl,vas,by omega,fun H4 b4 hH4=>?_⟩
   obtain ⟨dh4,_,h14,h24,h34⟩:=id hH4;refine ⟨_,U,a,CH,dh4,_,_,U,h14,TV.clH,TV.nV,fX _ _,vl,_,U,.inl (SqL.of h24),_,_,U,U,(h.length:Nat),?_,fun H5 c s5 nc hc=>?_⟩
   ·rw [Ge,h34.len,Gi]
    show [V.int (((h.length+1:Nat):Int)-1)]=_;rw [show (((h.length+1:Nat):Int)-1)=((h.length:Nat):Int) by omega]
   ·have nc1:H1 c=none:=by
     by_cases e:H1 c=none
     ·exact e
     ·obtain ⟨o,ho⟩:=HN.mp e
      by_cases ca:c=a
      ·rw [ca,h14] at nc;cases nc
      ·by_cases cv:c=vl
       ·rw [cv,h24] at nc;cases nc
       ·rw [b4 _ _ (s13 _ _ ho) ca cv] at nc;cases nc
    refine k1 H5 c (as++[v]) (fun x o nx e=>s5 _ _ (b4 _ _ (s13 _ _ e) (fun z=>nx (by simp [z])) (fun z=>nx (by simp [z])))) (fun x hx=>?_) (hH4.same s5) nc1 hc
    rcases HS.mp hx with hx | hx
    ·exact .inl hx
    ·rw [G7.mp hx]
     exact .inr nv1
  ·rw [Gc g4]
   rw [Ga (.inr (show KEPT<_ by unfold KEPT;omega))] at one;rw [one] at k1;exact (Ga U).mpr ⟨_,U,fun H4 c s4 nc hc=>k1.same hH1 U (s13.trans s4) (s13.free nc) hc⟩
theorem EG:eM ["version"] ["version"] (defScope jn):=mkSc
theorem Fo {f CV CH:Gf} {fd:GG} (F:Fun K "answer_parents" "answer_parents" jn f fd) (TV:TxV K mg CV CH) (GL:Fn P w K mg base 2 "list_answer" ["number","listed"] qX) (GF:Fn P w K mg base 1 "parent_for_answer" ["parent"] FU):ff P w K mg base (CXF P w) 3 f fd ["version"] (B9 CV):=by
 refine okN (k:=2) F EG fun cdv A outer s H vs Q E hr h=>?_
 ·obtain ⟨c,dx,f,s,l,k,p,o,rfl,hc,q⟩:=h
  have hr1:fi 1 _:=hr.mono (by decide);refine ⟨_,eI (eP (eV GL hr U eG (eA eN (eA (fP (eA (eV GF hr1 U eG (eA (eQ (pv 0) U) eF)) (eA (eV GF hr1 U eG (eA (eQ (pv 0) U) eF)) eF))) eF)))),?_⟩;refine ⟨_,rfl,c,CV,dx,_,_,rfl,hc,TV.clV,TV.nF,lj _ _ _ _ _ _,f,rfl,_,rfl,c,CV,dx,_,_,rfl,hc,TV.clV,TV.nS,jR _ _ _ _ _ _,s,rfl,(by show 2<=sizeLine;decide),fun l1 n1=>?_⟩
  have s1:=L2.upN (o := .lst [.int (parentNum f:Nat),.int (parentNum s:Nat)]) n1;exact ⟨0,l1,[parentNum f,parentNum s],rfl,eC,(by show 7<=sizeLine;decide),fun H' r s2 nr hr'=>q H' r (s1.trans s2) (s1.free nr) hr'⟩
theorem wS:eM ["history","number","other","base"] ["history","number","other"] (defScope kR):=mkSc
theorem DB {f CV CH:Gf} {fd:GG} (F:Fun K "answer_base" "answer_base" kR f fd) (T:TxS K mg) (TV:TxV K mg CV CH) (GN:Fn P w K mg base 2 "number_answer" ["number"] qJ) (GB:Md P w K mg base 13 CH "base_of" ["self","number","other"] (B6 CV CH)):ff P w K mg base (CXF P w) 14 f fd ["history","number","other"] (zH CV CH):=by
 refine okN (k:=13) F wS fun cdv A outer s H vs Q E hr h=>?_
 ·obtain ⟨a,vl,as,h,ok,u,v,rfl,hH,G,hu,hv,k⟩:=h
  have nd:=wS.nd;have hr2:fi 2 _:=hr.mono (by decide);refine ⟨_,eE (eO (i:=3) nd U (Gy U) (f6 (pv 0) TV.clH GB hr eG (eA (pv 1) (eA (pv 2) eF))))
   (eI (eP (eV GN hr2 U eG (eA (ko (gP (jI (pv 3))) (fO T.noBase U) (pv 3)) eF)))),?_⟩
  have hl:=G.len;obtain ⟨dh,nv,h1,h2,h3⟩:=id hH;refine ⟨_,U,a,dh,_,U,h1,pO _ _ (by decide +kernel) (by decide +kernel),_,U,_,U,a,vl,as,h,ok,u,v,U,hH,G.wf,hu,hv,by omega,fun H1 s1=>?_⟩
  unfold aBase at k;refine ⟨_,U,_,U,?_⟩;cases e:h.base u v with
  | none =>
   rw [e] at k;exact (Ga U).mpr ⟨_,U,fun H2 c s2 nc hc=>k H2 c (s1.trans s2) (s1.free nc) hc⟩
  | some x =>
   rw [e] at k;exact (F9 (by simp [optV])).mpr ⟨_,U,(x:Nat),U,fun H2 c s2 nc hc=>k H2 c (s1.trans s2) (s1.free nc) hc⟩
theorem su:eM ["history","number","origins"] ["history","number"] (defScope jG):=mkSc
theorem yB {f CV CH:Gf} {fd:GG} (F:Fun K "answer_whence" "answer_whence" jG f fd) (T:TxS K mg) (TV:TxV K mg CV CH) (GL:Fn P w K mg base 2 "list_answer" ["number","listed"] qX) (GW:Md P w K mg base 15 CH "whence" ["self","number"] (wz CV CH)):ff P w K mg base (CXF P w) 16 f fd ["history","number"] (uh CV CH):=by
 refine okN (k:=15) F su fun cdv A outer s H vs Q E hr h=>?_
 ·obtain ⟨a,vl,as,h,ok,v,rfl,hH,G,hv,k⟩:=h
  have nd:=su.nd;have hr2:fi 2 _:=hr.mono (by decide);refine ⟨_,eE (eO (i:=2) nd U (Gy U) (f6 (pv 0) TV.clH GW hr eG (eA (pv 1) eF)))
   (eI (eP (eV GL hr2 U eG (eA (eU eL U T.len Gz (eA (pv 2) eF)) (eA (pv 2) eF))))),?_⟩
  have szl:sizeLine=16777216:=Hj;obtain ⟨dh,nv,h1,h2,h3⟩:=id hH;have hx:h[v]?=some h[v]:=Gk hv;have wl:(h.whence v).length=(linesOf h[v].text).length:=Lb.ow G.wf hx;have tl:=fL (G.wf v _ hx).2.2;refine ⟨_,U,a,dh,_,U,h1,pO _ _ (by decide +kernel) (by decide +kernel),_,U,a,vl,as,h,ok,v,U,hH,G,hv,fun H1 r k1 hH1 hr'=>?_⟩
  refine ⟨_,U,r,_,U,.inl (SqL.of hr'),_,U,_,r,h.whence v,U,hr',by omega,fun H2 c s2 nc hc=>?_⟩
  rw [Ge] at hc;exact k H2 c as (fun b o nb e=>s2 _ _ (k1 b o (fun z=>nb (by simp [z])) e)) (fun y hy => .inl hy) (hH1.same s2) (k1.free hH1 nc) hc
section
variable (nm:G9) (la lr:Gf) (bg:Bool)
theorem kf_big:(kf nm la lr bg).lookup ("has_too_large":G9)=some (.bl bg):=by
 unfold kf;rw [eJ,Ga rfl]
theorem pK:(kf nm la lr bg).lookup ("rows":G9)=some (.ref lr):=by
 unfold kf;rw [eJ,F9 (by decide +kernel),eJ,Ga rfl]
theorem rB:(kf nm la lr bg).lookup ("numbers":G9)=some (.ref la):=by
 unfold kf;rw [eJ,F9 (by decide +kernel),eJ,F9 (by decide +kernel),eJ,Ga rfl]
theorem gR:(kf nm la lr bg).lookup ("name":G9)=some (.str nm):=by
 unfold kf;rw [eJ,F9 (by decide +kernel),eJ,F9 (by decide +kernel),eJ,F9 (by decide +kernel),eJ,Ga rfl]
end
def shp:Ig->G9×List Nat×List Gn
 | .differ a b=>("differ",[],[a,b])
 | .patch a b=>("patch",[],[a,b])
 | .apply a p=>("apply",[],[a,p])
 | .back a p=>("back",[],[a,p])
 | .merge o a b=>("merge",[],[o,a,b])
 | .begin_ o=>("begin",[o],[])
 | .load o b=>("load",[o],[b])
 | .put o p q a=>("put",[o,p,q],[a])
 | .text o v=>("text",[o,v],[])
 | .parents o v=>("parents",[o,v],[])
 | .base o u v=>("base",[o,u,v],[])
 | .whence o v=>("whence",[o,v],[])
 | .save o=>("save",[o],[])
def tK (CC:Gf) (H:Hp) (y:Gf) (c:Ig) (bg:Bool):Prop:=∃ (dx la lr:Gf) (ras:List Gf),H y=some (.ins CC dx (kf (shp c).1 la lr bg))/\H la=some (.lst ((shp c).2.1.map fun n=>V.int (n:Nat)))/\H lr=some (.lst (ras.map V.ref))/\ras.length=(shp c).2.2.length/\∀ (i:Nat) (r:Gf) (b:Gn),ras[i]?=some r->(shp c).2.2[i]?=some b->H r=some (.lst (b.map vb))
theorem tK.same {CC:Gf} {H H':Hp} {y:Gf} {c:Ig} {bg:Bool} (x:tK CC H y c bg) (s:eT H H'):tK CC H' y c bg:=let ⟨dx,la,lr,ras,e1,e2,e3,e4,e5⟩:=x;⟨dx,la,lr,ras,s _ _ e1,s _ _ e2,s _ _ e3,e4,fun i r b g1 g2=>s _ _ (e5 i r b g1 g2)⟩
def verCall (nm:G9) (ns:List Nat) (c:Ig):Prop:=(nm = "text" /\ ∃ o v,ns=[v]/\c = .text o v)∨(nm = "parents" /\ ∃ o v,ns=[v]/\c = .parents o v)∨(nm = "base" /\ ∃ o u v,ns=[u,v]/\c = .base o u v)∨(nm = "whence" /\ ∃ o v,ns=[v]/\c = .whence o v)
def FV (CV CH:Gf):Sp:=fun vs H Q _=>∃ (nm:G9) (a l vl:Gf) (as:List Gf) (h:His) (ok:Gf->Prop) (ns:List Nat) (c:Ig),vs=[.str nm,.ref a,.ref l]/\fh CV CH H ok a vl as h/\gz h/\H l=some (.lst (ns.map fun n=>V.int (n:Nat)))/\verCall nm ns c/\qc CV CH H ok a vl as Q (on h c)
def pN (c:Ig):Prop:=(∃ o p q b,c = .put o p q b)∨(∃ o,c = .save o)∨(∃ o v,c = .text o v)∨(∃ o v,c = .parents o v)∨(∃ o u v,c = .base o u v)∨(∃ o v,c = .whence o v)
def zE (CC CV CH:Gf):Sp:=fun vs H Q _=>∃ (y a vl:Gf) (as:List Gf) (h:His) (ok:Gf->Prop) (c:Ig) (bg:Bool),vs=[.ref y,.ref a]/\tK CC H y c bg/\VersionNs.large c=false/\pN c/\fh CV CH H ok a vl as h/\gz h/\qc CV CH H ok a vl as Q (on h c)
theorem sc_ofv:eM ["name","history","numbers"] ["name","history","numbers"] (defScope hX):=mkSc
theorem ok_ofv {f CV CH:Gf} {fd:GG} (F:Fun K "answer_of_versions" "answer_of_versions" hX f fd) (T:TxS K mg) (TV:TxV K mg CV CH) (GN:Fn P w K mg base 2 "number_answer" ["number"] qJ) (GR:Fn P w K mg base 2 "row_answer" ["row"] rT) (GJ:Fn P w K mg base 11 "join_lines" ["lines"] (qi K))
  (GP:Fn P w K mg base 3 "answer_parents" ["version"] (B9 CV)) (GB:Fn P w K mg base 14 "answer_base" ["history","number","other"] (zH CV CH)) (GW:Fn P w K mg base 16 "answer_whence" ["history","number"] (uh CV CH)):ff P w K mg base (CXF P w) 17 f fd ["name","history","numbers"] (FV CV CH):=by
 refine okN (k:=16) F sc_ofv fun cdv A outer s H vs Q E hr h=>?_
 ·obtain ⟨nm,a,l,vl,as,h,ok,ns,c,rfl,hH,G,hl,hc,k⟩:=h
  have hr2:fi 2 _:=hr.mono (by decide);have hr3:fi 3 _:=hr.mono (by decide);have hr11:fi 11 _:=hr.mono (by decide);have hr14:fi 14 _:=hr.mono (by decide);refine ⟨_,eE (fF (eX C4 (eU (cr_max U) U T.max boot_max (eA (pv 2) eF)) (eU eL U T.len Gz (eA (eQ (pv 1) U) eF)) (fb _)) (eI (eP (eV GN hr2 U eG (eA (fO T.noVersion U) eF)))) eY)
   (eE (fF (eX io (pv 0) h8 (fb _)) (eI (eP (eV GR hr2 U eG (eA (eV GJ hr11 U eG (eA (eQ (fM fm (eQ (pv 1) U) (fM fm (pv 2) eN (fun _ _=>U)) (fun _ _=>U)) U) eF)) eF)))) eY)
   (eE (fF (eX io (pv 0) h8 (fb _)) (eI (eP (eV GP hr3 U eG (eA (fM fm (eQ (pv 1) U) (fM fm (pv 2) eN (fun _ _=>U)) (fun _ _=>U)) eF)))) eY)
   (eE (fF (eX io (pv 0) h8 (fb _)) (eI (eP (eV GB hr14 U eG (eA (pv 1) (eA (fM fm (pv 2) eN (fun _ _=>U)) (eA (fM fm (pv 2) eN (fun _ _=>U)) eF)))))) eY)
   (eI (eP (eV GW hr U eG (eA (pv 1) (eA (fM fm (pv 2) eN (fun _ _=>U)) eF)))))))),?_⟩
  have W:=G.wf;have szl:sizeLine=16777216:=Hj;obtain ⟨dh,nv,h1,h2,h3⟩:=id hH;have al:(as.map V.ref).length=h.length:=by rw [Ge,h3.len]
  have at_:∀ v (hv:v<h.length),∃ b,atI (as.map V.ref) (v:Nat)=some (V.ref b)/\kD CV H ok b h v h[v]:=fun v hv=>by
   obtain ⟨b,hb,hvb⟩:=hH.verI (Gk hv);exact ⟨b,gE (by rw [Hh,hb];rfl),hvb⟩
  rcases hc with ⟨rfl,o,v,rfl,rfl⟩ | ⟨rfl,o,v,rfl,rfl⟩ | ⟨rfl,o,u,v,rfl,rfl⟩ | ⟨rfl,o,v,rfl,rfl⟩
  ·refine ⟨_,rfl,l,[(v:Int)],rfl,SqL.of hl,(by show 0<1;decide),fun m hm hy=>⟨_,rfl,a,CH,dh,_,_,rfl,h1,TV.clH,TV.nV,fX _ _,vl,_,rfl,.inl (SqL.of h2),_,_,rfl,rfl,_,rfl,?_⟩⟩
   obtain rfl:=G7.mp hm;rw [al];refine gh (fun g=>?_) (fun g=>?_)
   ·have g:((h.length:Nat):Int)<=(v:Nat):=Gd g
    have e:on h (.text o v)=(says (-4),h):=by
     show ((match h[v]? with | some x=>gives x.text | none=>says (-4)),h)=_
     rw [Jh (by omega)]
    rw [e] at k;exact ⟨_,U,fun H2 c s2 nc hc=>k.same hH U s2 nc hc⟩
   have g:¬ ((h.length:Nat):Int)<=(v:Nat):=fun z=>g (Gb z)
   have hv:v<h.length:=by omega
   have e:on h (.text o v)=(gives h[v].text,h):=by
    show ((match h[v]? with | some x=>gives x.text | none=>says (-4)),h)=_
    rw [Gk hv]
   rw [e] at k;obtain ⟨b,ab,dv,lv,kv,pv',ov,_,_,v1,v2,_⟩:=at_ v hv;have tz:=iM (W v _ (Gk hv)).2.2;refine ⟨_,U,U,_,U,(Ga (by decide +kernel)).mpr ?_⟩;refine ⟨_,U,a,CH,dh,_,_,U,h1,TV.clH,TV.nV,fX _ _,_,U,l,_,_,_,U,U,SqL.of hl,U,vl,_,_,_,U,U,SqL.of h2,ab,b,CV,dv,_,_,U,v1,TV.clV,TV.nL,jS _ _ _ _ _ _,?_⟩;refine ⟨lv,_,U,v2,by rw [Lb.fK];omega,fun H1 q s1 nq hq=>?_⟩
   rw [Lb.fK] at hq;exact ⟨q,_,U,hq,by omega,fun H2 c s2 nc hc=>k.same hH U (s1.trans s2) (s1.free nc) hc⟩
  ·refine ⟨_,rfl,l,[(v:Int)],rfl,SqL.of hl,(by show 0<1;decide),fun m hm hy=>⟨_,rfl,a,CH,dh,_,_,rfl,h1,TV.clH,TV.nV,fX _ _,vl,_,rfl,.inl (SqL.of h2),_,_,rfl,rfl,_,rfl,?_⟩⟩
   obtain rfl:=G7.mp hm;rw [al];refine gh (fun g=>?_) (fun g=>?_)
   ·have g:((h.length:Nat):Int)<=(v:Nat):=Gd g
    have e:on h (.parents o v)=(says (-4),h):=by
     show ((match h[v]? with | some x=>tells 0 [parentNum x.first,parentNum x.second] | none=>says (-4)),h)=_
     rw [Jh (by omega)]
    rw [e] at k;exact ⟨_,U,fun H2 c s2 nc hc=>k.same hH U s2 nc hc⟩
   have g:¬ ((h.length:Nat):Int)<=(v:Nat):=fun z=>g (Gb z)
   have hv:v<h.length:=by omega
   have e:on h (.parents o v)=(tells 0 [parentNum h[v].first,parentNum h[v].second],h):=by
    show ((match h[v]? with | some x=>tells 0 [parentNum x.first,parentNum x.second] | none=>says (-4)),h)=_
    rw [Gk hv]
   rw [e] at k;obtain ⟨b,ab,dv,lv,kv,pv',ov,_,_,v1,v2,_⟩:=at_ v hv;refine ⟨_,U,U,_,U,(F9 (by decide +kernel)).mpr ?_⟩;refine ⟨_,U,U,_,U,(Ga (by decide +kernel)).mpr ?_⟩;refine ⟨_,U,a,CH,dh,_,_,U,h1,TV.clH,TV.nV,fX _ _,_,U,l,_,_,_,U,U,SqL.of hl,U,vl,_,_,_,U,U,SqL.of h2,ab,?_⟩;exact ⟨b,dv,_,_,_,_,_,_,U,v1,fun H2 c s2 nc hc=>k.same hH U s2 nc hc⟩
  ·refine ⟨_,rfl,l,[(u:Int),(v:Int)],rfl,SqL.of hl,(by show 0<2;decide),fun m hm hy=>⟨_,rfl,a,CH,dh,_,_,rfl,h1,TV.clH,TV.nV,fX _ _,vl,_,rfl,.inl (SqL.of h2),_,_,rfl,rfl,_,rfl,?_⟩⟩
   rw [al];have hu:=hy (u:Int) (by simp);have hv:=hy (v:Int) (by simp);have hm:m=(u:Int)∨m=(v:Int):=by simpa using hm
   have e:on h (.base o u v)=((if h.length<=u∨h.length<=v then says (-4) else aBase h u v),h):=rfl
   refine gh (fun g=>?_) (fun g=>?_)
   ·have g:((h.length:Nat):Int)<=m:=Gd g
    rw [e,Ga (by omega)] at k;exact ⟨_,U,fun H2 c s2 nc hc=>k.same hH U s2 nc hc⟩
   have g:¬ ((h.length:Nat):Int)<=m:=fun z=>g (Gb z)
   rw [e,F9 (by omega)] at k;refine ⟨_,U,U,_,U,(F9 (by decide +kernel)).mpr ?_⟩;refine ⟨_,U,U,_,U,(F9 (by decide +kernel)).mpr ?_⟩;refine ⟨_,U,U,_,U,(Ga (by decide +kernel)).mpr ?_⟩;refine ⟨_,U,_,U,l,_,_,_,U,U,SqL.of hl,U,_,U,l,_,_,_,U,U,SqL.of hl,U,?_⟩;exact ⟨a,vl,as,h,ok,u,v,U,hH,G,by omega,by omega,fun H2 c s2 nc hc=>k.same hH U s2 nc hc⟩
  ·refine ⟨_,rfl,l,[(v:Int)],rfl,SqL.of hl,(by show 0<1;decide),fun m hm hy=>⟨_,rfl,a,CH,dh,_,_,rfl,h1,TV.clH,TV.nV,fX _ _,vl,_,rfl,.inl (SqL.of h2),_,_,rfl,rfl,_,rfl,?_⟩⟩
   obtain rfl:=G7.mp hm;rw [al];have e:on h (.whence o v)=((if h.length<=v then says (-4) else tells ((h.whence v).length:Nat) (h.whence v)),h):=rfl
   refine gh (fun g=>?_) (fun g=>?_)
   ·have g:((h.length:Nat):Int)<=(v:Nat):=Gd g
    rw [e,Ga (by omega)] at k;exact ⟨_,U,fun H2 c s2 nc hc=>k.same hH U s2 nc hc⟩
   have g:¬ ((h.length:Nat):Int)<=(v:Nat):=fun z=>g (Gb z)
   rw [e,F9 (by omega)] at k;refine ⟨_,U,U,_,U,(F9 (by decide +kernel)).mpr ?_⟩;refine ⟨_,U,U,_,U,(F9 (by decide +kernel)).mpr ?_⟩;refine ⟨_,U,U,_,U,(F9 (by decide +kernel)).mpr ?_⟩;refine ⟨_,U,_,U,l,_,_,_,U,U,SqL.of hl,U,?_⟩;exact ⟨a,vl,as,h,ok,v,U,hH,G,by omega,k⟩
theorem Cu:eM ["call","history"] ["call","history"] (defScope im):=mkSc
theorem Dx {f CC CV CH:Gf} {fd:GG} (F:Fun K "answer_by_history" "answer_by_history" im f fd) (TK:TxK K CC) (GP:Fn P w K mg base 17 "answer_put" ["history","first","second","row"] (FR CV CH)) (GR:Fn P w K mg base 2 "row_answer" ["row"] rT) (GB:Fn P w K mg base 13 "history_bytes" ["history"] (wE CV CH)) (GV:Fn P w K mg base 17 "answer_of_versions" ["name","history","numbers"] (FV CV CH)):ff P w K mg base (CXF P w) 18 f fd ["call","history"] (zE CC CV CH):=by
 refine okN (k:=17) F Cu fun cdv A outer s H vs Q E hr h=>?_
 ·obtain ⟨y,a,vl,as,h,ok,c,bg,rfl,hy,lg,hc,hH,G,k⟩:=h
  have hr2:fi 2 _:=hr.mono (by decide);have hr13:fi 13 _:=hr.mono (by decide);refine ⟨_,eE (fF (eX io (eQ (pv 0) U) h8 (fb _)) (eI (eP (eV GP hr U eG (eA (pv 1) (eA (fM fm (eQ (pv 0) U) eN (fun _ _=>U)) (eA (fM fm (eQ (pv 0) U) eN (fun _ _=>U)) (eA (fM fm (eQ (pv 0) U) eN (fun _ _=>U)) eF))))))) eY)
   (eE (fF (eX io (eQ (pv 0) U) h8 (fb _)) (eI (eP (eV GR hr2 U eG (eA (eV GB hr13 U eG (eA (pv 1) eF)) eF)))) eY)
   (eI (eP (eV GV hr U eG (eA (eQ (pv 0) U) (eA (pv 1) (eA (fZ gy (eQ (pv 0) U) (fH eN) nE) eF))))))),?_⟩
  have szl:sizeLine=16777216:=Hj;obtain ⟨dx,la,lr,ras,e1,e2,e3,e4,e5⟩:=hy;rcases hc with ⟨o,p,q,b,rfl⟩ | ⟨o,rfl⟩ | hc
  ·have tb:isText b=true:=by
    have:(!isText b)=false:=lg;simpa using this
   match ras,e4 with
   | [r],_ =>
    have hr0:H r=some (.lst (b.map vb)):=e5 0 r b rfl rfl;refine ⟨_,rfl,y,CC,dx,_,_,rfl,e1,TK.cl,TK.nN,gR _ _ _ _,rfl,_,rfl,(Ga (show decide (V.str "put"=V.str "put")=true by decide +kernel)).mpr ?_⟩;refine ⟨_,U,_,U,y,CC,dx,_,_,U,e1,TK.cl,TK.nU,rB _ _ _ _,la,_,_,_,U,U,SqL.of e2,U,_,U,y,CC,dx,_,_,U,e1,TK.cl,TK.nU,rB _ _ _ _,la,_,_,_,U,U,SqL.of e2,U,_,U,y,CC,dx,_,_,U,e1,TK.cl,TK.nR,pK _ _ _ _,lr,_,_,_,U,U,SqL.of e3,U,?_⟩;exact ⟨a,vl,r,as,h,ok,p,q,b,U,hH,G,hr0,tb,k⟩
  ·refine ⟨_,rfl,y,CC,dx,_,_,rfl,e1,TK.cl,TK.nN,gR _ _ _ _,rfl,_,rfl,(F9 (show ¬ decide (V.str "save"=V.str "put")=true by decide +kernel)).mpr ?_⟩
   refine ⟨_,rfl,y,CC,dx,_,_,rfl,e1,TK.cl,TK.nN,gR _ _ _ _,rfl,_,rfl,(Ga (show decide (V.str "save"=V.str "save")=true by decide +kernel)).mpr ?_⟩;have bl:=Lb.uV G;have e:on h (.save o)=(gives h.bytes,h):=rfl;rw [e] at k;refine ⟨_,U,a,vl,as,h,ok,U,hH,G,fun H1 r s1 nr hr'=>?_⟩
   exact ⟨r,_,U,hr',by omega,fun H2 c s2 nc hc=>k.same hH U (s1.trans s2) (s1.free nc) hc⟩
  ·have vc:∃ (o:Nat) (ns:List Nat),(shp c).2.1=o::ns/\verCall (shp c).1 ns c/\decide (V.str (shp c).1=V.str "put")=false/\decide (V.str (shp c).1=V.str "save")=false:=by
    rcases hc with ⟨o,v,rfl⟩ | ⟨o,v,rfl⟩ | ⟨o,u,v,rfl⟩ | ⟨o,v,rfl⟩
    ·exact ⟨o,[v],rfl,.inl ⟨rfl,o,v,rfl,rfl⟩,(show decide (V.str "text"=V.str "put")=false by decide +kernel),(show decide (V.str "text"=V.str "save")=false by decide +kernel)⟩
    ·exact ⟨o,[v],rfl,.inr (.inl ⟨rfl,o,v,rfl,rfl⟩),(show decide (V.str "parents"=V.str "put")=false by decide +kernel),(show decide (V.str "parents"=V.str "save")=false by decide +kernel)⟩
    ·exact ⟨o,[u,v],rfl,.inr (.inr (.inl ⟨rfl,o,u,v,rfl,rfl⟩)),(show decide (V.str "base"=V.str "put")=false by decide +kernel),(show decide (V.str "base"=V.str "save")=false by decide +kernel)⟩
    ·exact ⟨o,[v],rfl,.inr (.inr (.inr ⟨rfl,o,v,rfl,rfl⟩)),(show decide (V.str "whence"=V.str "put")=false by decide +kernel),(show decide (V.str "whence"=V.str "save")=false by decide +kernel)⟩
   obtain ⟨o,ns,en,vc,q1,q2⟩:=vc;rw [en] at e2;refine ⟨_,U,y,CC,dx,_,_,U,e1,TK.cl,TK.nN,gR _ _ _ _,U,_,U,(F9 (by rw [q1];exact GI)).mpr ?_⟩;refine ⟨_,U,y,CC,dx,_,_,U,e1,TK.cl,TK.nN,gR _ _ _ _,U,_,U,(F9 (by rw [q2];exact GI)).mpr ?_⟩;refine ⟨_,U,y,CC,dx,_,_,U,e1,TK.cl,TK.nN,gR _ _ _ _,_,U,_,U,y,CC,dx,_,_,U,e1,TK.cl,TK.nU,rB _ _ _ _,_,U,la,_,U,SqL.of e2,fun c1 nc1=>?_⟩
   have s1:=L2.upN (o := .lst (cutV ((o::ns).map fun n=>V.int (n:Nat)) (some 1) none)) nc1
   have hvl:H vl≠none:=hH.there (by simp);refine ⟨_,a,c1,vl,as,h,_,ns,c,U,(hH.same s1).okf hvl,G,?_,vc,k.of s1 hvl⟩;rw [eC,lF (z:=1) (s:=1) rfl];rfl
def sf (d:Gf):List (G9×V):=putF "histories" (.ref d) []
theorem Ey (d:Gf):(sf d).lookup ("histories":G9)=some (.ref d):=by
 unfold sf;rw [eJ,Ga rfl]
theorem Cb (d:Gf) {m:G9} (h:¬ m = "histories"):(sf d).lookup m=none:=by
 unfold sf;rw [eJ,F9 h];rfl
structure yU (K:Gh) (CS:Gf):Prop where
 cl:Cls K CS
 nH:fq K CS "histories"
def own (x:Gf×Gf×List Gf):List Gf:=x.1::x.2.1::x.2.2
def gst (st:State) (o:Nat):Option His:=(st[o]?).getD none
theorem nX {st:State} {o:Nat} {x:Option His} (h:o<st.length) (p:Nat):gst (st.set o x) p=if p=o then x else gst st p:=by
 unfold gst;by_cases e:p=o
 ·subst e
  rw [Je h,Ga rfl];rfl
 ·rw [Jk (HA e),F9 e]
def jQ (CV CH CS:Gf) (H:Hp) (ok mu:Gf->Prop) (s d:Gf) (n:Nat) (st:State):Prop:=∃ (dx:Gf) (kvs:List (L2.Key×V)) (m:Nat->Gf×Gf×List Gf),H s=some (.ins CS dx (sf d))/\H d=some (.dK kvs)/\kvs.length<=n/\st.length=4/\mu d/\¬ mu s /\
 (∀ o h,gst st o=some h->valV kvs (ik o)=some (.ref (m o).1)/\fh CV CH H ok (m o).1 (m o).2.1 (m o).2.2 h/\gz h/\∀ b∈own (m o),mu b)/\(∀ o,gst st o=none->valV kvs (ik o)=none) /\
 ∀ o p,o≠p->gst st o≠none->gst st p≠none->∀ b∈own (m o),b∉own (m p)
def qb (CV CH CS:Gf) (H:Hp) (ok mu:Gf->Prop) (s d:Gf) (n:Nat) (Q:VK) (R:State×KS):Prop:=∀ (H':Hp) (c:Gf) (ok' mu':Gf->Prop),(∀ b o,¬ mu b->H b=some o->H' b=some o)->(∀ b,ok' b->ok b∨H b=none)->(∀ b,mu' b->mu b∨H b=none)->jQ CV CH CS H' ok' mu' s d (n+1) R.1->H c=none->lI H' c R.2->Q (.ref c) H'
section
variable {CV CH CS:Gf} {H H':Hp} {ok ok' mu mu':Gf->Prop} {s d a vl c:Gf} {as:List Gf} {h:His} {n:Nat} {st:State} {Q:VK} {R:State×KS}
theorem fh.nd (x:fh CV CH H ok a vl as h) {kvs:List (L2.Key×V)} (e:H d=some (.dK kvs)):d∉a::vl::as:=by
 obtain ⟨dx,nv,e1,e2,e3⟩:=id x;intro hm;rcases Gu.mp hm with z | hm
 ·rw [z,e1] at e;cases e
 rcases Gu.mp hm with z | hm
 ·rw [z,e2] at e;cases e
 obtain ⟨i,v,_,_,dv,l,k,p,o,_,_,w,_⟩:=x.verM hm;rw [w] at e;cases e
theorem fh.kpo (x:fh CV CH H ok a vl as h) (k:∀ b o,b∉a::vl::as->H b=some o->H' b=some o):Kp ok H H':=by
 obtain ⟨dx,nv,e1,e2,e3⟩:=id x;have ni:∀ {b:Gf} {o:HO},H b=some o->(∀ C dx fs,o ≠ .ins C dx fs)->b≠vl->b∉a::vl::as:=fun {b o} e hn nb hm=>by
  rcases Gu.mp hm with z | hm
  ·rw [z,e1] at e;injection e with e;exact hn _ _ _ e.symm
  rcases Gu.mp hm with z | hm
  ·exact nb z
  obtain ⟨i,v,_,_,dv,l,k,p,o,_,_,w,_⟩:=x.verM hm;rw [w] at e;injection e with e;exact hn _ _ _ e.symm
 exact ⟨fun b xs ob e=>k b _ (ni e (by intro _ _ _ z;cases z) fun z=>nv (z▸ob)) e,fun b xs e=>k b _ (ni e (by intro _ _ _ z;cases z) (fG e e2 (by intro z;cases z))) e⟩
theorem jQ.keep (x:jQ CV CH CS H ok mu s d n st) (kp:Kp ok H H') (km:∀ b o,mu b∨b=s->H b=some o->H' b=some o):jQ CV CH CS H' ok mu s d n st:=by
 obtain ⟨dx,kvs,m,e1,e2,e3,e4,e5,e6,e7,e8,e9⟩:=x;exact ⟨dx,kvs,m,km _ _ (.inr U) e1,km _ _ (.inl e5) e2,e3,e4,e5,e6,fun o h e=>let ⟨g1,g2,g3,g4⟩:=e7 o h e;⟨g1,g2.keep kp fun b o hb z=>km b o (.inl (g4 b hb)) z,g3,g4⟩,e8,e9⟩
theorem jQ.same (x:jQ CV CH CS H ok mu s d n st) (k:eT H H'):jQ CV CH CS H' ok mu s d n st:=x.keep k.kp fun b o _ e=>k b o e
theorem jQ.more (x:jQ CV CH CS H ok mu s d n st) {n':Nat} (hn:n<=n'):jQ CV CH CS H ok mu s d n' st:=by
 obtain ⟨dx,kvs,m,e1,e2,e3,e4,e5,e6,e7,e8,e9⟩:=x;exact ⟨dx,kvs,m,e1,e2,by omega,e4,e5,e6,e7,e8,e9⟩
theorem qb.same (k:qb CV CH CS H ok mu s d n Q R) (x:jQ CV CH CS H ok mu s d n st) (e:R.1=st) (z:eT H H') (nc:H c=none) (ha:lI H' c R.2):Q (.ref c) H':=k H' c ok mu (fun b o _ g=>z b o g) (fun b g => .inl g) (fun b g => .inl g) (by rw [e];exact (x.same z).more (Nat.le_succ _)) nc ha
theorem qb.of {H1:Hp} (k:qb CV CH CS H ok mu s d n Q R) (z:eT H H1):qb CV CH CS H1 ok mu s d n Q R:=fun H' c ok' mu' b g1 g2 x nc ha=>k H' c ok' mu' (fun b' o nb e=>b b' o nb (z _ _ e)) (fun b g=>(g1 b g).imp id z.free) (fun b g=>(g2 b g).imp id z.free) x (z.free nc) ha
theorem jQ.hist (x:jQ CV CH CS H ok mu s d n st) {o:Nat} (ho:gst st o=some h) {m:Nat->Gf×Gf×List Gf} {kvs:List (L2.Key×V)} {dx:Gf} (ol:o<4) {as':List Gf} {h':His}
  (x1:H s=some (.ins CS dx (sf d))) (x2:H d=some (.dK kvs)) (x3:kvs.length<=n) (x4:st.length=4) (x5:mu d) (x6:¬ mu s) (x7:∀ o h,gst st o=some h->valV kvs (ik o)=some (.ref (m o).1)/\fh CV CH H ok (m o).1 (m o).2.1 (m o).2.2 h/\gz h/\∀ b∈own (m o),mu b) (x8:∀ o,gst st o=none->valV kvs (ik o)=none)
  (x9:∀ o p,o≠p->gst st o≠none->gst st p≠none->∀ b∈own (m o),b∉own (m p))
  (k:∀ b u,b∉own (m o)->H b=some u->H' b=some u) (k2:∀ y∈as',y∈(m o).2.2∨H y=none) (hh:fh CV CH H' (okF H ok) (m o).1 (m o).2.1 as' h') (G:gz h') :
  jQ CV CH CS H' (okF H ok) (fun b=>mu b∨b∈as') s d n (st.set o (some h')):=by
 obtain ⟨g1,g2,g3,g4⟩:=x7 o h ho;have sn:s∉own (m o):=fun z=>x6 (g4 s z)
 have dn:d∉own (m o):=g2.nd x2;have kp:Kp ok H H':=g2.kpo k;have as4:∀ y∈as',mu y∨H y=none:=fun y hy=>(k2 y hy).imp (fun z=>g4 y (by unfold own;simp [z])) id
 refine ⟨dx,kvs,fun p=>if p=o then ((m o).1,(m o).2.1,as') else m p,k _ _ sn x1,k _ _ dn x2,x3,by rw [Ky];exact x4,.inl x5,fun z=>z.elim x6 fun z=>(as4 s z).elim x6 fun z=>(by rw [x1] at z;cases z),fun p hp e=>?_,fun p e=>?_,fun p q pq ep eq b hb=>?_⟩
 ·rw [nX (by omega)] at e
  by_cases po:p=o
  ·subst po
   rw [Ga rfl] at e;cases e;simp only [if_true];refine ⟨g1,hh,G,fun b hb=>?_⟩
   unfold own at hb;rcases Gu.mp hb with z | hb
   ·exact .inl (g4 b (by rw [z];unfold own;simp))
   rcases Gu.mp hb with z | hb
   ·exact .inl (g4 b (by rw [z];unfold own;simp))
   exact .inr hb
  ·rw [F9 po] at e
   simp only [F9 po];obtain ⟨f1,f2,f3,f4⟩:=x7 p hp e;refine ⟨f1,(f2.keep kp fun b u hb z=>k b u (fun w=>x9 p o po (by rw [e];simp) (by rw [ho];simp) b hb w) z).okf (f2.there (by simp)),f3,fun b hb => .inl (f4 b hb)⟩
 ·rw [nX (by omega)] at e
  by_cases po:p=o
  ·subst po
   rw [Ga rfl] at e;cases e
  ·rw [F9 po] at e
   exact x8 p e
 ·rw [nX (by omega)] at ep eq
  have sub:∀ y∈own ((m o).1,(m o).2.1,as'),y∈own (m o)∨H y=none:=fun y hy=>by
   unfold own at hy ⊢;rcases Gu.mp hy with z | hy
   ·exact .inl (by simp only at z;simp [z])
   rcases Gu.mp hy with z | hy
   ·exact .inl (by simp only at z;simp [z])
   exact (k2 y hy).imp (fun z=>by simp [z]) id
  by_cases po:p=o
  ·subst po
   have qp:¬ q=p:=fun z=>pq z.symm
   rw [F9 qp] at eq;simp only [if_true,F9 qp] at hb ⊢;intro hb';obtain ⟨hq,ehq⟩:=HN.mp eq;obtain ⟨_,f2,_,_⟩:=x7 q hq ehq;rcases sub b hb with z | z
   ·exact x9 p q pq (by rw [ho];simp) eq b z hb'
   ·exact f2.there hb' z
  ·rw [F9 po] at ep
   simp only [F9 po] at hb;obtain ⟨hp,ehp⟩:=HN.mp ep;obtain ⟨_,f2,_,_⟩:=x7 p hp ehp;by_cases qo:q=o
   ·subst qo
    simp only [if_true];intro hb';rcases sub b hb' with z | z
    ·exact x9 p q pq ep (by rw [ho];simp) b hb z
    ·exact f2.there hb z
   ·rw [F9 qo] at eq
    simp only [F9 qo];exact x9 p q pq ep eq b hb
theorem jQ.new {H1:Hp} {okL:Gf->Prop} {o:Nat} {m:Nat->Gf×Gf×List Gf} {kvs:List (L2.Key×V)} {dx:Gf} (ol:o<4)
  (x1:H s=some (.ins CS dx (sf d))) (x2:H d=some (.dK kvs)) (x3:kvs.length<=n) (x4:st.length=4) (x5:mu d) (x6:¬ mu s) (x7:∀ o h,gst st o=some h->valV kvs (ik o)=some (.ref (m o).1)/\fh CV CH H ok (m o).1 (m o).2.1 (m o).2.2 h/\gz h/\∀ b∈own (m o),mu b) (x8:∀ o,gst st o=none->valV kvs (ik o)=none)
  (x9:∀ o p,o≠p->gst st o≠none->gst st p≠none->∀ b∈own (m o),b∉own (m p))
  (k:eT H H1) (hh:fh CV CH H1 okL a vl as h) (G:gz h) (fr:∀ y∈a::vl::as,H y=none) (hL:∀ b,okL b->H b=none) :
  jQ CV CH CS (upd H1 d (.dK (putK kvs (ik o) (.ref a)))) (fun b=>(H b≠none/\ok b)∨okL b) (fun b=>mu b∨b∈a::vl::as) s d (n+1) (st.set o (some h)):=by
 have d1:=k _ _ x2;have sd:s≠d:=fG x1 x2 (by intro z;cases z);have kp:∀ ok'',Kp ok'' H1 (upd H1 d (.dK (putK kvs (ik o) (.ref a)))):=fun ok''=>⟨fun b xs _ e=>by rw [eK (fG e d1 (by intro z;cases z))];exact e,fun b xs e=>by rw [eK (fG e d1 (by intro z;cases z))];exact e⟩
 have lp:=jy kvs (ik o) (.ref a);have dn:d∉a::vl::as:=hh.nd d1;refine ⟨dx,putK kvs (ik o) (.ref a),fun p=>if p=o then (a,vl,as) else m p,by rw [eK sd];exact k _ _ x1,eC,by omega,by rw [Ky];exact x4,.inl x5,fun z=>z.elim x6 fun z=>(by have:=fr s z;rw [x1] at this;cases this),fun p hp e=>?_,fun p e=>?_,fun p q pq ep eq b hb=>?_⟩
 ·rw [nX (by omega)] at e
  rw [oU];by_cases po:p=o
  ·subst po
   rw [Ga rfl] at e;cases e;simp only [if_true];refine ⟨trivial,?_,G,fun b hb => .inr hb⟩
   refine fh.keep (hh.weak (fun b _ z => .inr z) fun z=>z.elim (fun z=>z.1 (fr vl (by simp))) hh.nokv) (kp _) fun b u hb e=>?_
   have bd:b≠d:=fun z=>dn (z▸hb)
   rw [eK bd];exact e
  ·rw [F9 po] at e
   rw [F9 (fun z=>po (yJ z))]
   simp only [F9 po];obtain ⟨f1,f2,f3,f4⟩:=x7 p hp e;refine ⟨f1,?_,f3,fun b hb => .inl (f4 b hb)⟩
   have w:=f2.weak (ok':=fun b=>(H b≠none/\ok b)∨okL b) (fun b nb z => .inl ⟨nb,z⟩) fun z=>z.elim (fun z=>f2.nokv z.2) fun z=>f2.there (by simp) (hL _ z)
   refine fh.keep (w.same k) (kp _) fun b u hb e=>?_
   have bd:b≠d:=fun z=>f2.nd x2 (z▸hb)
   rw [eK bd];exact e
 ·rw [nX (by omega)] at e
  by_cases po:p=o
  ·subst po
   rw [Ga rfl] at e;cases e
  ·rw [F9 po] at e
   rw [oU,F9 (fun z=>po (yJ z))]
   exact x8 p e
 ·rw [nX (by omega)] at ep eq
  by_cases po:p=o
  ·subst po
   have qp:¬ q=p:=fun z=>pq z.symm
   rw [F9 qp] at eq;simp only [if_true,F9 qp] at hb ⊢;intro hb';obtain ⟨hq,ehq⟩:=HN.mp eq;obtain ⟨_,f2,_,_⟩:=x7 q hq ehq;exact f2.there hb' (fr b hb)
  ·rw [F9 po] at ep
   simp only [F9 po] at hb;obtain ⟨hp,ehp⟩:=HN.mp ep;obtain ⟨_,f2,_,_⟩:=x7 p hp ehp;by_cases qo:q=o
   ·subst qo
    simp only [if_true];intro hb';exact f2.there hb (fr b hb')
   ·rw [F9 qo] at eq
    simp only [F9 qo];exact x9 p q pq ep eq b hb
end
def zq (CS:Gf):Sp:=fun vs H Q _=>∃ (x dx:Gf),vs=[.ref x]/\H x=some (.ins CS dx [])/\∀ (H':Hp) (d:Gf),H d=none->H' x=some (.ins CS dx (sf d))->H' d=some (.dK [])->But x H H'->Q .non H'
def zF (CV CH CS:Gf):Sp:=fun vs H Q _=>∃ (s d:Gf) (ok mu:Gf->Prop) (n o:Nat) (st:State),vs=[.ref s,.int (o:Nat)]/\jQ CV CH CS H ok mu s d n st/\n<=1000/\o<4/\qb CV CH CS H ok mu s d n Q (st.set o (some []),says 0)
def aLoad (st:State) (o:Nat) (b:Gn):State×KS:=match readHistory b with
 | .error e=>(st,wrong e)
 | .ok h=>(st.set o (some h),says 0)
def BX (CV CH CS:Gf):Sp:=fun vs H Q _=>∃ (s d r:Gf) (ok mu:Gf->Prop) (n o:Nat) (st:State) (b:Gn),vs=[.ref s,.int (o:Nat),.ref r]/\jQ CV CH CS H ok mu s d n st/\n<=1000/\o<4/\H r=some (.lst (b.map vb))/\b.length<=1200000/\qb CV CH CS H ok mu s d n Q (aLoad st o b)
theorem Cf:eM ["self"] ["self"] (defScope lU):=mkSc
theorem C9 {f CS:Gf} {fd:GG} (F:Fun K "__init__" "Shelf.__init__" lU f fd) (T:yU K CS):ff P w K mg base (CXF P w) 1 f fd ["self"] (zq CS):=by
 refine okN (k:=0) F Cf fun cdv A outer s H vs Q E hr h=>?_
 ·obtain ⟨x,dx,rfl,he,q⟩:=h
  refine ⟨_,eI (gw (pv 0) CZ U),?_⟩;refine fun d nd=>⟨_,rfl,x,CS,dx,[],rfl,L2.upN nd _ _ he,T.cl,T.nH,(by show 0<1000;decide),?_⟩
  have dx':d≠x:=fun z=>by rw [z,he] at nd;cases nd
  exact q _ d nd eC (by rw [eK dx',eC]) ((But.refl.new nd).upd)
theorem Cv:eM ["self","number"] ["self","number"] (defScope kS):=mkSc
theorem Dy {f CV CH CS:Gf} {fd:GG} (F:Fun K "begin" "Shelf.begin" kS f fd) (T:yU K CS) (GH:Cl P w K mg base 1 CH "History" ["self"] (vw CH)) (GN:Fn P w K mg base 2 "number_answer" ["number"] qJ):ff P w K mg base (CXF P w) 3 f fd ["self","number"] (zF CV CH CS):=by
 refine okN (k:=2) F Cv fun cdv A outer s H vs Q E hr h=>?_
 ·obtain ⟨s,d,ok,mu,n,o,st,rfl,hS,hn,ho,k⟩:=h
  have hu:=uM hr;refine ⟨_,eE (rh hu (eQ (pv 0) U) (pv 1) (vH GH hr U eG) U) (eI (eP (eV GN hr U eG (eA eN eF)))),?_⟩;have szl:sizeLine=16777216:=Hj;obtain ⟨dx,kvs,m,x1,x2,x3,x4,x5,x6,x7,x8,x9⟩:=hS;refine fun a da na nda nea=>⟨a,da,U,eC,fun H1 vl nvl ha hvl b1=>⟨U,?_⟩⟩
  have s1:eT H H1:=gX na nda b1;have nvl0:H vl=none:=(rq (C:=CH) na nda nea).free nvl;refine ⟨_,U,s,CS,dx,_,_,U,s1 _ _ x1,T.cl,T.nH,Ey _,_,U,d,_,U,tS.k (k:=ik o) (s1 _ _ x2) (by omega),?_⟩;have hh:fh CV CH H1 (fun b=>H b=none/\b≠vl) a vl [] []:=⟨da,fun z=>z.2 rfl,ha,hvl,wb.nil⟩
  have fr:∀ y∈a::vl::([]:List Gf),H y=none:=fun y hy=>by
   rcases Gu.mp hy with z | hy
   ·rw [z];exact na
   ·rw [G7.mp hy];exact nvl0
  have nw:=jQ.new (n:=n) ho x1 x2 x3 x4 x5 x6 x7 x8 x9 s1 hh gz.nil fr (fun b z=>z.1)
  refine ⟨_,U,fun H3 c s3 nc hc=>?_⟩
  have nc1:H c=none:=by
   by_cases cd:c=d
   ·rw [cd,eC] at nc;cases nc
   ·rw [eK cd] at nc;exact s1.free nc
  exact k H3 c _ _ (fun b u nb e=>s3 _ _ ((eK (fun z:b=d=>nb (z.symm▸x5))).trans (s1 _ _ e))) (fun b z=>z.elim (fun z => .inl z.2) fun z => .inr z.1) (fun b z=>z.imp id (fr b)) (nw.same s3) nc1 hc
theorem zO:eM ["self","number","row","history","fault"] ["self","number","row"] (defScope lT):=mkSc
theorem Fc {f CF CV CH CS:Gf} {fd:GG} (F:Fun K "load" "Shelf.load" lT f fd) (T:yU K CS) (FO:gU P w K mg base CF) (GR:Fn P w K mg base 18 "read_history" ["row"] (ub K CF CV CH)) (GF:Fn P w K mg base 2 "fault_answer" ["fault"] (rZ CF)) (GN:Fn P w K mg base 2 "number_answer" ["number"] qJ):ff P w K mg base (CXF P w) 19 f fd ["self","number","row"] (BX CV CH CS):=by
 refine okN (k:=18) F zO fun cdv A outer s H vs Q E hr h=>?_
 ·obtain ⟨s,d,r,ok,mu,n,o,st,b,rfl,hS,hn,ho,hb,bl,k⟩:=h
  have nd:=zO.nd;have hu:=uM hr;have hr2:fi 2 _:=hr.mono (by decide);obtain ⟨fI,fdI,XC,_,_⟩:=FO.ex;obtain ⟨fR,fdR,m1,m2,m3,m4⟩:=GR.ex;refine ⟨_,eE (wY XC U FO.at_ m4 hr U m1 m2 m3 (eA (pv 2) eF) nd (i:=3) U (Gy U) (j:=4) U U (fun ev=>eI (eP (eV GF (hr2.mark (by decide) _) U eG (eA (pv 4) eF)))) U U U)
   (eE (rh hu (eQ (pv 0) U) (pv 1) (pv 3) U) (eI (eP (eV GN hr2 U eG (eA eN eF))))),?_⟩
  have szl:sizeLine=16777216:=Hj;refine ⟨_,U,r,b,U,hb,by omega,fun e he=>?_,fun h hh0 H1 a vl as s1 na nvl nas hh=>?_⟩
  ·have ea:aLoad st o b=(st,wrong e):=by unfold aLoad;rw [he]
   rw [ea] at k;intro H' dx s' hd;refine ⟨U,dx,U,fun ea nea=>?_⟩
   have s2:=L2.upN (o:=ot CF ea dx) nea;exact ⟨_,U,ea,dx,e,U,eC,s2 _ _ hd,fun H2 c s3 nc hc=>k.same hS U ((s'.trans s2).trans s3) ((s'.trans s2).free nc) hc⟩
  have ea:aLoad st o b=(st.set o (some h),says 0):=by unfold aLoad;rw [hh0]
  rw [ea] at k;obtain ⟨dx,kvs,m,x1,x2,x3,x4,x5,x6,x7,x8,x9⟩:=hS;refine ⟨_,U,_,U,s,CS,dx,_,_,U,s1 _ _ x1,T.cl,T.nH,Ey _,_,U,d,_,U,tS.k (k:=ik o) (s1 _ _ x2) (by omega),?_⟩;have fr:∀ y∈a::vl::as,H y=none:=fun y hy=>by
   rcases Gu.mp hy with z | hy
   ·rw [z];exact na
   rcases Gu.mp hy with z | hy
   ·rw [z];exact nvl
   exact nas y hy
  have nw:=jQ.new (n:=n) ho x1 x2 x3 x4 x5 x6 x7 x8 x9 s1 hh (Lb.qt hh0) fr (fun b z=>z.1)
  refine ⟨_,U,fun H3 c s3 nc hc=>?_⟩
  have nc1:H c=none:=by
   by_cases cd:c=d
   ·rw [cd,eC] at nc;cases nc
   ·rw [eK cd] at nc;exact s1.free nc
  exact k H3 c _ _ (fun b u nb e=>s3 _ _ ((eK (fun z:b=d=>nb (z.symm▸x5))).trans (s1 _ _ e))) (fun b z=>z.elim (fun z => .inl z.2) fun z => .inr z.1) (fun b z=>z.imp id (fr b)) (nw.same s3) nc1 hc
theorem E2 {h:His} {c:Ig} (G:gz h) (lg:large c=false) (hc:pN c):gz (on h c).2:=by
 rcases hc with ⟨o,p,q,b,rfl⟩ | ⟨o,rfl⟩ | ⟨o,v,rfl⟩ | ⟨o,v,rfl⟩ | ⟨o,u,v,rfl⟩ | ⟨o,v,rfl⟩
 ·have tb:isText b=true:=by
   have:(!isText b)=false:=lg;simpa using this
  unfold VersionNs.on;simp only;split
  ·exact G
  ·rename_i g1
   split
   ·exact G
   ·rename_i g2
    split
    ·exact G
    ·rename_i g3
     have po:∀ n x:Nat,n<=h.length->Jb n=some x->x<h.length:=fun n x hn e=>by
      unfold Jb at e;split at e
      ·cases e
      ·cases e
       omega
     refine G.snoc (fun x hx=>po p x (by omega) hx) (fun x hx=>po q x (by omega) hx) tb (fun e=>?_) (by omega) (by unfold K5 at g3;omega)
     have e:Jb p=none:=e;show Jb q=none;unfold Jb at e ⊢;split at e
     ·rename_i hp
      rw [Ga (by omega)]
     ·cases e
 all_goals exact G
theorem wy {st:State} {c:Ig} {o:Nat} (lg:large c=false) (hc:pN c) (ho:(shp c).2.1.head?=some o):step st c=onHistory st o c:=by
 rcases hc with ⟨o,p,q,b,rfl⟩ | ⟨o,rfl⟩ | ⟨o,v,rfl⟩ | ⟨o,v,rfl⟩ | ⟨o,u,v,rfl⟩ | ⟨o,v,rfl⟩
 all_goals
  cases ho;unfold IQ;rw [F9 (by rw [lg];exact GI)]
def Et (nm:G9) (ts:List Gn) (an:KS):Prop:=(nm = "differ" /\ ∃ a b,ts=[a,b]/\an=rJ a b)∨(nm = "patch" /\ ∃ a b,ts=[a,b]/\an=gives (patchOf a b))∨(nm = "merge" /\ ∃ o a b,ts=[o,a,b]/\an=wa o a b)
abbrev in3 (nm:G9):Bool:=inV (.str nm) [.str "differ",.str "patch",.str "merge"]
abbrev in2 (nm:G9):Bool:=inV (.str nm) [.str "apply",.str "back"]
theorem jU {st:State} {c:Ig} {R:State×KS} (lg:large c=false) (e:(match c with
 | .differ a b=>(st,rJ a b)
 | .patch a b=>(st,gives (patchOf a b))
 | .apply a p=>(st,byPatchA true a p)
 | .back a p=>(st,byPatchA false a p)
 | .merge o a b=>(st,wa o a b)
 | _=>step st c)=R):step st c=R:=by
 rw [← e];cases c <;> first | rfl | (unfold IQ;rw [F9 (by rw [lg];exact GI)];try rfl)
theorem classes {st:State} (c:Ig) (lg:large c=false):(in3 (shp c).1=true/\∃ an,Et (shp c).1 (shp c).2.2 an/\step st c=(st,an)/\∀ b∈(shp c).2.2,isText b=true) ∨
  (in3 (shp c).1=false/\in2 (shp c).1=true/\∃ a z,(shp c).2.2=[a,z]/\isText a=true/\z.length<=131072/\step st c=(st,byPatchA (decide ((shp c).1 = "apply")) a z)) ∨
  (in3 (shp c).1=false/\in2 (shp c).1=false/\∃ o ns,(shp c).2.1=o::ns/\(pN c∨c = .begin_ o∨∃ b,c = .load o b)):=by
 cases c with
 | differ a b =>
  have lg':(!(isText a && isText b))=false:=lg;have ⟨ta,tb⟩:isText a=true/\isText b=true:=by simpa using lg'
  exact .inl ⟨(show in3 "differ"=true by decide +kernel),_,.inl ⟨rfl,a,b,rfl,rfl⟩,jU lg rfl,fun x hx=>by
   rcases Gu.mp hx with rfl | hx
   ·exact ta
   ·rw [G7.mp hx];exact tb⟩
 | patch a b =>
  have lg':(!(isText a && isText b))=false:=lg;have ⟨ta,tb⟩:isText a=true/\isText b=true:=by simpa using lg'
  exact .inl ⟨(show in3 "patch"=true by decide +kernel),_,.inr (.inl ⟨rfl,a,b,rfl,rfl⟩),jU lg rfl,fun x hx=>by
   rcases Gu.mp hx with rfl | hx
   ·exact ta
   ·rw [G7.mp hx];exact tb⟩
 | apply a z =>
  have lg':(!isText a || decide (JQ<z.length))=false:=lg;rw [Bool.or_eq_false_iff] at lg';have zl:=of_decide_eq_false lg'.2;unfold JQ at zl;exact .inr (.inl ⟨(show in3 "apply"=false by decide +kernel),(show in2 "apply"=true by decide +kernel),a,z,rfl,by simpa using lg'.1,by omega,jU lg (by rw [show decide ((shp (.apply a z)).1 = "apply")=true from (show decide (("apply":G9) = "apply")=true by decide +kernel)])⟩)
 | back a z =>
  have lg':(!isText a || decide (JQ<z.length))=false:=lg;rw [Bool.or_eq_false_iff] at lg';have zl:=of_decide_eq_false lg'.2;unfold JQ at zl;exact .inr (.inl ⟨(show in3 "back"=false by decide +kernel),(show in2 "back"=true by decide +kernel),a,z,rfl,by simpa using lg'.1,by omega,jU lg (by rw [show decide ((shp (.back a z)).1 = "apply")=false from (show decide (("back":G9) = "apply")=false by decide +kernel)])⟩)
 | merge o a b =>
  have lg':(!(isText o && (isText a && isText b)))=false:=lg;have ⟨to,ta,tb⟩:isText o=true/\isText a=true/\isText b=true:=by simpa using lg'
  exact .inl ⟨(show in3 "merge"=true by decide +kernel),_,.inr (.inr ⟨rfl,o,a,b,rfl,rfl⟩),jU lg rfl,fun x hx=>by
   rcases Gu.mp hx with rfl | hx
   ·exact to
   rcases Gu.mp hx with rfl | hx
   ·exact ta
   ·rw [G7.mp hx];exact tb⟩
 | begin_ o=>exact .inr (.inr ⟨(show in3 "begin"=false by decide +kernel),(show in2 "begin"=false by decide +kernel),o,_,rfl,.inr (.inl rfl)⟩)
 | load o b=>exact .inr (.inr ⟨(show in3 "load"=false by decide +kernel),(show in2 "load"=false by decide +kernel),o,_,rfl,.inr (.inr ⟨b,rfl⟩)⟩)
 | put o p q b=>exact .inr (.inr ⟨(show in3 "put"=false by decide +kernel),(show in2 "put"=false by decide +kernel),o,_,rfl,.inl (.inl ⟨o,p,q,b,rfl⟩)⟩)
 | save o=>exact .inr (.inr ⟨(show in3 "save"=false by decide +kernel),(show in2 "save"=false by decide +kernel),o,_,rfl,.inl (.inr (.inl ⟨o,rfl⟩))⟩)
 | text o v=>exact .inr (.inr ⟨(show in3 "text"=false by decide +kernel),(show in2 "text"=false by decide +kernel),o,_,rfl,.inl (.inr (.inr (.inl ⟨o,v,rfl⟩)))⟩)
 | parents o v=>exact .inr (.inr ⟨(show in3 "parents"=false by decide +kernel),(show in2 "parents"=false by decide +kernel),o,_,rfl,.inl (.inr (.inr (.inr (.inl ⟨o,v,rfl⟩))))⟩)
 | base o u v=>exact .inr (.inr ⟨(show in3 "base"=false by decide +kernel),(show in2 "base"=false by decide +kernel),o,_,rfl,.inl (.inr (.inr (.inr (.inr (.inl ⟨o,u,v,rfl⟩)))))⟩)
 | whence o v=>exact .inr (.inr ⟨(show in3 "whence"=false by decide +kernel),(show in2 "whence"=false by decide +kernel),o,_,rfl,.inl (.inr (.inr (.inr (.inr (.inr ⟨o,v,rfl⟩)))))⟩)
theorem eS.grow {H:Hp} {p D:Gf} {ls:List Gn} {zs:List V} {o:HO} (h:eS H p ls) (e:H D=some (.lst zs)) (n:p≠D):eS (upd H D o) p ls:=let ⟨as,e1,e2⟩:=h;⟨as,by rw [eK n];exact e1,e2.same (L2.mn e)⟩
def zr (CC CV CH CS:Gf):Sp:=fun vs H Q _=>∃ (s d y:Gf) (ok mu:Gf->Prop) (n o:Nat) (st:State) (c:Ig) (bg:Bool),vs=[.ref s,.ref y,.int (o:Nat)]/\jQ CV CH CS H ok mu s d n st/\n<=1000/\tK CC H y c bg/\large c=false/\(shp c).2.1.head?=some o/\(pN c∨c = .begin_ o∨∃ b,c = .load o b)/\qb CV CH CS H ok mu s d n Q (step st c)
def zp (CC CV CH CS:Gf):Sp:=fun vs H Q _=>∃ (s d y:Gf) (ok mu:Gf->Prop) (n:Nat) (st:State) (c:Ig),vs=[.ref s,.ref y]/\jQ CV CH CS H ok mu s d n st/\n<=1000/\tK CC H y c (large c)/\qb CV CH CS H ok mu s d n Q (step st c)
theorem Cj:eM ["self","call","number"] ["self","call","number"] (defScope gu):=mkSc
theorem Df {f CC CV CH CS:Gf} {fd:GG} (F:Fun K "answer_on_history" "Shelf.answer_on_history" gu f fd) (T:TxS K mg) (TS:yU K CS) (TK:TxK K CC) (GN:Fn P w K mg base 2 "number_answer" ["number"] qJ) (GB:Md P w K mg base 3 CS "begin" ["self","number"] (zF CV CH CS)) (GL:Md P w K mg base 19 CS "load" ["self","number","row"] (BX CV CH CS)) (GH:Fn P w K mg base 18 "answer_by_history" ["call","history"] (zE CC CV CH)) :
  ff P w K mg base (CXF P w) 20 f fd ["self","call","number"] (zr CC CV CH CS):=by
 refine okN (k:=19) F Cj fun cdv A outer s H vs Q E hr h=>?_
 ·obtain ⟨s,d,y,ok,mu,n,o,st,c,bg,rfl,hS,hn,hy,lg,ho,hc,k⟩:=h
  have hu:=uM hr;have hr2:fi 2 _:=hr.mono (by decide);have hr3:fi 3 _:=hr.mono (by decide);have hr18:fi 18 _:=hr.mono (by decide);refine ⟨_,eE (fF (eX jg (pv 2) (fO T.last U) (fb _)) (eI (eP (eV GN hr2 U eG (eA (fO T.range U) eF)))) eY)
   (eE (fF (eX io (eQ (pv 1) U) h8 (fb _)) (eI (eP (f6 (pv 0) TS.cl GB hr3 eG (eA (pv 2) eF)))) eY)
   (eE (fF (eX io (eQ (pv 1) U) h8 (fb _)) (eI (eP (f6 (pv 0) TS.cl GL hr eG (eA (pv 2) (eA (fM fm (eQ (pv 1) U) eN (fun _ _=>U)) eF))))) eY)
   (eE (fF (gP (A1 hu (pv 2) (eQ (pv 0) U))) (eI (eP (eV GN hr2 U eG (eA (fO T.notBegun U) eF)))) eY)
   (eI (eP (eV GH hr18 U eG (eA (pv 1) (eA (Ab hu (eQ (pv 0) U) (pv 2) (fun _ _=>U)) eF)))))))),?_⟩
  obtain ⟨dy,la,lr,ras,e1,e2,e3,e4,e5⟩:=id hy;obtain ⟨dx,kvs,m,x1,x2,x3,x4,x5,x6,x7,x8,x9⟩:=id hS;have sno:∀ {m:G9},¬ m = "histories" -> (sf d).lookup m=none:=fun h=>Cb _ h
  refine ⟨_,U,_,_,U,U,_,U,?_⟩;refine gh (fun g=>?_) (fun g=>?_)
  ·have g:(3:Int)<(o:Nat):=Gd g
   have e:step st c=(st,says (-1)):=by
    rcases hc with hc | rfl | ⟨b,rfl⟩
    ·rw [wy lg hc ho]
     unfold VersionNs.onHistory;rw [Ga (by unfold IX;omega)]
    ·unfold IQ
     rw [F9 (by rw [lg];exact GI)];simp only;rw [Ga (by unfold IX;omega)]
    ·unfold IQ
     rw [F9 (by rw [lg];exact GI)];simp only;rw [Ga (by unfold IX;omega)]
   rw [e] at k;exact ⟨_,U,fun H2 c s2 nc hc=>k.same hS U s2 nc hc⟩
  have g:¬ (3:Int)<(o:Nat):=fun z=>g (Gb z)
  have ol:o<4:=by omega
  rcases hc with hc | rfl | ⟨b,rfl⟩
  ·have nb:decide (V.str (shp c).1=V.str "begin")=false/\decide (V.str (shp c).1=V.str "load")=false:=by
    rcases hc with ⟨o,p,q,b,rfl⟩ | ⟨o,rfl⟩ | ⟨o,v,rfl⟩ | ⟨o,v,rfl⟩ | ⟨o,u,v,rfl⟩ | ⟨o,v,rfl⟩
    ·exact ⟨(show decide (V.str "put"=V.str "begin")=false by decide +kernel),(show decide (V.str "put"=V.str "load")=false by decide +kernel)⟩
    ·exact ⟨(show decide (V.str "save"=V.str "begin")=false by decide +kernel),(show decide (V.str "save"=V.str "load")=false by decide +kernel)⟩
    ·exact ⟨(show decide (V.str "text"=V.str "begin")=false by decide +kernel),(show decide (V.str "text"=V.str "load")=false by decide +kernel)⟩
    ·exact ⟨(show decide (V.str "parents"=V.str "begin")=false by decide +kernel),(show decide (V.str "parents"=V.str "load")=false by decide +kernel)⟩
    ·exact ⟨(show decide (V.str "base"=V.str "begin")=false by decide +kernel),(show decide (V.str "base"=V.str "load")=false by decide +kernel)⟩
    ·exact ⟨(show decide (V.str "whence"=V.str "begin")=false by decide +kernel),(show decide (V.str "whence"=V.str "load")=false by decide +kernel)⟩
   rw [wy lg hc ho] at k;unfold VersionNs.onHistory at k;rw [F9 (by unfold IX;omega)] at k;refine ⟨_,U,y,CC,dy,_,_,U,e1,TK.cl,TK.nN,gR _ _ _ _,U,_,U,(F9 (by rw [nb.1];exact GI)).mpr ?_⟩;refine ⟨_,U,y,CC,dy,_,_,U,e1,TK.cl,TK.nN,gR _ _ _ _,U,_,U,(F9 (by rw [nb.2];exact GI)).mpr ?_⟩;refine ⟨_,U,_,U,s,CS,dx,_,_,U,x1,TS.cl,TS.nH,Ey _,d,_,U,lh.k (k:=ik o) x2,_,U,?_⟩;cases hg:gst st o with
   | none =>
    have hg':(st[o]?).getD none=none:=hg;rw [hg'] at k;rw [x8 o hg];exact (Ga U).mpr ⟨_,U,fun H2 c s2 nc hc=>k.same hS U s2 nc hc⟩
   | some h =>
    have hg':(st[o]?).getD none=some h:=hg;rw [hg'] at k;obtain ⟨f1,f2,f3,f4⟩:=x7 o h hg;have dg:=lh.k (k:=ik o) x2;rw [f1] at dg ⊢;refine (F9 (by simp)).mpr ?_;refine ⟨_,U,_,U,s,CS,dx,_,_,U,x1,TS.cl,TS.nH,Ey _,_,U,d,_,U,dg,?_⟩;refine ⟨y,(m o).1,(m o).2.1,(m o).2.2,h,ok,c,bg,U,hy,lg,hc,f2,f3,fun H' r as' q1 q2 q3 q4 q5=>?_⟩
    have nw:=hS.hist hg ol x1 x2 x3 x4 x5 x6 x7 x8 x9 (m:=m) q1 q2 q3 (E2 f3 lg hc);exact k H' r _ _ (fun b u nb e=>q1 b u (fun z=>nb (f4 b z)) e) (fun b z=>z) (fun b z=>z.elim .inl fun z=>(q2 b z).imp (fun z=>f4 b (by unfold own;simp [z])) id) (nw.more (Nat.le_succ _)) q4 q5
  ·have e:step st (.begin_ o)=(st.set o (some []),says 0):=by
    unfold IQ;rw [F9 (by rw [lg];exact GI)];simp only;rw [F9 (by unfold IX;omega)]
   rw [e] at k;refine ⟨_,rfl,y,CC,dy,_,_,rfl,e1,TK.cl,TK.nN,gR _ _ _ _,rfl,_,rfl,(Ga (show decide (V.str "begin"=V.str "begin")=true by decide +kernel)).mpr ?_⟩;exact ⟨_,U,s,dx,_,U,x1,sno (by decide +kernel),_,U,s,d,ok,mu,n,o,st,U,hS,hn,ol,k⟩
  ·have e:step st (.load o b)=aLoad st o b:=by
    unfold IQ;rw [F9 (by rw [lg];exact GI)];simp only;rw [F9 (by unfold IX;omega)];rfl
   rw [e] at k;have bl:b.length<=1200000:=by
    have lg:decide (LQ<b.length)=false:=lg;have:=of_decide_eq_false lg;unfold LQ at this;omega
   match ras,e4 with
   | [r],_ =>
    have hr0:H r=some (.lst (b.map vb)):=e5 0 r b rfl rfl;refine ⟨_,rfl,y,CC,dy,_,_,rfl,e1,TK.cl,TK.nN,gR _ _ _ _,rfl,_,rfl,(F9 (show ¬ decide (V.str "load"=V.str "begin")=true by decide +kernel)).mpr ?_⟩;refine ⟨_,rfl,y,CC,dy,_,_,rfl,e1,TK.cl,TK.nN,gR _ _ _ _,rfl,_,rfl,(Ga (show decide (V.str "load"=V.str "load")=true by decide +kernel)).mpr ?_⟩;exact ⟨_,U,s,dx,_,U,x1,sno (by decide +kernel),_,U,_,U,y,CC,dy,_,_,U,e1,TK.cl,TK.nR,pK _ _ _ _,lr,_,_,_,U,U,SqL.of e3,U,s,d,r,ok,mu,n,o,st,b,U,hS,hn,ol,hr0,bl,k⟩
theorem wI:eM ["self","call","row"] ["self","call"] (defScope iQ):=mkSc
theorem Da {f CC CV CH CS:Gf} {fd:GG} (F:Fun K "answer" "Shelf.answer" iQ f fd) (T:TxS K mg) (TS:yU K CS) (TK:TxK K CC) (GN:Fn P w K mg base 2 "number_answer" ["number"] qJ) (GT:Fn P w K mg base 17 "answer_by_texts" ["name","texts"] ue) (GP:Fn P w K mg base 15 "answer_by_patch" ["name","old","row"] uf) (GS:Fn P w K mg base 11 "split_lines" ["row"] (oY K)) (GO:Md P w K mg base 20 CS "answer_on_history" ["self","call","number"] (zr CC CV CH CS)) :
  ff P w K mg base (CXF P w) 21 f fd ["self","call"] (zp CC CV CH CS):=by
 refine okN (k:=20) F wI fun cdv A outer s H vs Q E hr h=>?_
 ·obtain ⟨s,d,y,ok,mu,n,st,c,rfl,hS,hn,hy,k⟩:=h
  have nd:=wI.nd;have hr2:fi 2 _:=hr.mono (by decide);have hr11:fi 11 _:=hr.mono (by decide);have hr15:fi 15 _:=hr.mono (by decide);have hr17:fi 17 _:=hr.mono (by decide);refine ⟨_,eE (fF (kj (eQ (pv 1) U)) (eI (eP (eV GN hr2 U eG (eA (fO T.large U) eF)))) eY)
   (eE (fF (eX nI (eQ (pv 1) U) (iE (eA h8 (eA h8 (eA h8 eF)))) U) (eI (eP (eV GT hr17 U eG (eA (eQ (pv 1) U) (eA (qL (own:=[("row",2)]) U nd (gr (eQ (pv 1) U)) (iq (N:=["self","call","row"]) (sc:=defScope iQ) (by decide +kernel)) (fun _ _ _ _ _=>eZ (i:=2) nd U (Gy U)) (fun _ _ _ _ _=>lX) (fun _ _ _ _ _=>eV GS hr11 U eG (eA (pv 2) eF))) eF))))) eY)
   (eE (fF (eX nI (eQ (pv 1) U) (iE (eA h8 (eA h8 eF))) U) (eI (eP (eV GP hr15 U eG (eA (eQ (pv 1) U) (eA (eV GS hr11 U eG (eA (fM fm (eQ (pv 1) U) eN (fun _ _=>U)) eF)) (eA (fM fm (eQ (pv 1) U) eN (fun _ _=>U)) eF)))))) eY)
   (eI (eP (f6 (pv 0) TS.cl GO hr eG (eA (pv 1) (eA (fM fm (eQ (pv 1) U) eN (fun _ _=>U)) eF))))))),?_⟩
  have szl:sizeLine=16777216:=Hj;obtain ⟨dy,la,lr,ras,e1,e2,e3,e4,e5⟩:=id hy;refine ⟨_,U,y,CC,dy,_,_,U,e1,TK.cl,TK.nB,kf_big _ _ _ _,_,U,?_⟩;cases lg:large c with
  | true =>
   have e:step st c=(st,says (-2)):=by
    unfold IQ;rw [Ga lg]
   rw [e] at k;exact (Ga U).mpr ⟨_,U,fun H2 c s2 nc hc=>k.same hS U s2 nc hc⟩
  | false =>
   refine (F9 (by decide)).mpr ?_;refine ⟨_,rfl,y,CC,dy,_,_,rfl,e1,TK.cl,TK.nN,gR _ _ _ _,(by show 3<=sizeLine;decide),fun t1 n1=>⟨t1,_,rfl,.inr (SqT.of eC),rfl,rfl,_,rfl,?_⟩⟩
   show (if in3 (shp c).1=true then _ else _)
   have s1:=L2.upN (o := .tup [.str "differ",.str "patch",.str "merge"]) n1;rcases classes (st:=st) c lg with ⟨q1,an,tc,es,ht⟩ | ⟨q1,q2,a,z,er,ta,zl,es⟩ | ⟨q1,q2,o,ns,en,hc⟩
   ·rw [q1]
    rw [es] at k;refine (Ga U).mpr ?_;generalize upd H t1 (.tup [.str "differ",.str "patch",.str "merge"])=H1 at s1 ⊢;refine ⟨_,U,y,CC,dy,_,_,U,s1 _ _ e1,TK.cl,TK.nN,gR _ _ _ _,_,U,y,CC,dy,_,_,U,s1 _ _ e1,TK.cl,TK.nR,pK _ _ _ _,lr,U,⟨_,SqL.of (s1 _ _ e3)⟩,fun D nD=>?_⟩
    have nD0:H D=none:=s1.free nD;have rl:ras.length<=3:=by
     rw [e4];rcases tc with ⟨_,a,b,e,_⟩ | ⟨_,a,b,e,_⟩ | ⟨_,o,a,b,e,_⟩ <;> rw [e] <;> simp
    refine nM (K:=K) (a:=lr) (xs:=ras.map V.ref) (fun i H'=>eT H H'/\∃ ps:List Gf,H' D=some (.lst (ps.map V.ref))/\ps.length=i/\∀ (j:Nat) (p:Gf) (b:Gn),ps[j]?=some p->(shp c).2.2[j]?=some b->p≠D/\eS H' p (linesOf b))
     ⟨s1.new nD,[],eC,rfl,fun j p b e=>by simp at e⟩ (fun i H' _ ⟨z,_⟩=>SqL.of (z _ _ e3)) ?_ ?_
    ·rintro i x H2 hx ⟨s2,ps,hD,pl,pp⟩
     obtain ⟨r,hr',rfl⟩:=fz hx;have il:=(Gj.mp hr').1;have il2:i<(shp c).2.2.length:=by rw [← e4];exact il
     have hb:(shp c).2.2[i]?=some (shp c).2.2[i]:=Gk il2;have hrb:=e5 i r _ hr' hb;have tb:=ht _ (HG hb);have bz:=iM tb;refine ⟨U,li ?_⟩;refine ⟨_,U,r,_,U,SqL.of (s2 _ _ hrb),by omega,fun H3 p s3 np hp=>?_⟩
     have pD:p≠D:=fun z=>by rw [z,hD] at np;cases np
     refine ⟨_,s3 _ _ hD,by rw [Ge];omega,(s2.trans s3).own nD0,ps++[p],by rw [eC,Gr];rfl,by rw [Gi,pl];rfl,fun j p' b' g1 g2=>?_⟩
     by_cases hj:j<ps.length
     ·rw [G6 hj] at g1
      obtain ⟨w1,w2⟩:=pp j p' b' g1 g2;exact ⟨w1,(w2.same s3).grow (s3 _ _ hD) w1⟩
     ·have h1:=(Gj.mp g1).1
      have:j=ps.length:=by simp at h1;omega
      subst this;rw [Hg (Go _)] at g1;rw [pl,hb] at g2;simp at g1;subst g1;cases g2;exact ⟨pD,hp.grow (s3 _ _ hD) pD⟩
    ·rintro H2 ⟨s2,ps,hD,pl,pp⟩
     rw [Ge] at pl;exact ⟨_,D,ps,(shp c).2.2,an,U,hD,by rw [pl,e4],fun i p b g1 g2=>⟨(pp i p b g1 g2).2,ht b (HG g2)⟩,tc,fun H3 r s3 nr hr'=>k.same hS U (s2.trans s3) (s2.free nr) hr'⟩
   all_goals
    rw [q1];refine (F9 (by decide)).mpr ?_;generalize upd H t1 (.tup [.str "differ",.str "patch",.str "merge"])=H1 at s1 ⊢;refine ⟨_,rfl,y,CC,dy,_,_,rfl,s1 _ _ e1,TK.cl,TK.nN,gR _ _ _ _,(by show 2<=sizeLine;decide),fun t2 n2=>⟨t2,_,rfl,.inr (SqT.of eC),rfl,rfl,_,rfl,?_⟩⟩
    show (if in2 (shp c).1=true then _ else _)
    have s2:=s1.new (o := .tup [.str "apply",.str "back"]) n2;generalize upd H1 t2 (.tup [.str "apply",.str "back"])=H2 at s2 ⊢;rw [q2]
   ·rw [es] at k
    refine (Ga U).mpr ?_;rw [er] at e4 e5;have az:=iM ta
    match ras,e4 with
    | [r0,r1],_ =>
     have h0:=e5 0 r0 a rfl rfl;have h1:=e5 1 r1 z rfl rfl;refine ⟨_,U,y,CC,dy,_,_,U,s2 _ _ e1,TK.cl,TK.nN,gR _ _ _ _,_,U,y,CC,dy,_,_,U,s2 _ _ e1,TK.cl,TK.nR,pK _ _ _ _,lr,_,_,_,U,U,SqL.of (s2 _ _ e3),U,r0,a,U,SqL.of (s2 _ _ h0),by omega,fun H3 p s3 np hp=>?_⟩
     have s03:=s2.trans s3;refine ⟨_,U,y,CC,dy,_,_,U,s03 _ _ e1,TK.cl,TK.nR,pK _ _ _ _,lr,_,_,_,U,U,SqL.of (s03 _ _ e3),U,?_⟩;exact ⟨_,p,r1,a,z,U,hp,ta,s03 _ _ h1,zl,fun H4 r s4 nr hr'=>k.same hS U (s03.trans s4) (s03.free nr) hr'⟩
   ·refine (F9 (by decide)).mpr ?_
    rw [en] at e2;have hS2:=hS.same s2;obtain ⟨dx,kvs,m,x1,_⟩:=id hS2;refine ⟨_,rfl,s,dx,_,rfl,x1,Cb _ (by decide +kernel),_,rfl,_,rfl,y,CC,dy,_,_,rfl,s2 _ _ e1,TK.cl,TK.nU,rB _ _ _ _,la,_,_,_,rfl,rfl,SqL.of (s2 _ _ e2),(show atI ((o::ns).map fun n=>V.int (n:Nat)) ((0:Nat):Int)=some (V.int (o:Nat)) from gE rfl),?_⟩
    exact ⟨s,d,y,ok,mu,n,o,st,c,_,U,hS2,hn,hy.same s2,lg,by rw [en];rfl,hc,k.of s2⟩
def AM:Tbl:=fun p =>
 if p=0 then some ("differ",0,["text","text"]) else if p=1 then some ("patch",0,["text","text"]) else if p=2 then some ("apply",0,["text","patch"]) else if p=3 then some ("back",0,["text","patch"])
 else if p=4 then some ("merge",0,["text","text","text"]) else if p=5 then some ("begin",1,[]) else if p=6 then some ("load",1,["history"]) else if p=7 then some ("put",3,["text"]) else if p=8 then some ("text",2,[])
 else if p=9 then some ("parents",2,[]) else if p=10 then some ("base",3,[]) else if p=11 then some ("whence",2,[]) else if p=12 then some ("save",1,[]) else none
theorem ir (b:Gn):big "text" b = !isText b:=rfl
theorem ve (b:Gn):big "patch" b=decide (131072<b.length):=by
 unfold big;rw [F9 (by decide +kernel),Ga rfl]
theorem FJ (b:Gn):big "history" b=decide (1200000<b.length):=by
 unfold big;rw [F9 (by decide +kernel),F9 (by decide +kernel)]
theorem gI {x:List Int} (h:x.all (fun (z:Int)=>natural z 8)=true):rL x:=by
 unfold rL VersionNeutral.text VersionNeutral.nats;rw [Ic,Ic];apply ID;intro z hz;have:=Kj.mp h z hz;unfold LU at this;rw [G8] at this;have h1:=Gd this.1;have h2:=Gd this.2;show V.int z=vb (J1 z.toNat);unfold vb;rw [Lb.mx _ (by omega),JY h1]
theorem iH {z:Int} {k:Nat} (h:natural z k=true):(z.toNat:Int)=z:=by
 unfold LU at h;rw [G8] at h;exact JY (Gd h.1)
structure AE (p:Int) (n k:Nat) (ns:List Int) (xs:List (List Int)) (nm:G9) (ks:List G9) (x:Ig):Prop where
 tbl:AM p=some (nm,n,ks)
 len:ks.length=k
 short:k<=10
 call:callOf (whole ((p::ns)::xs))=some x
 name:(shp x).1=nm
 nums:(shp x).2.1.map (fun (m:Nat)=>(m:Int))=ns
 rows:(shp x).2.2=xs.map text
 bytes:∀ y∈xs,rL y
 big:bigs ks xs=large x
theorem in1 {α:Type} {P:α->Prop} {a:α} (h:P a):∀ y∈[a],P y:=fun y hy=>by rw [G7.mp hy];exact h
theorem DO {α:Type} {P:α->Prop} {a b:α} (h:P a) (g:P b):∀ y∈[a,b],P y:=fun y hy=>by
 rcases Gu.mp hy with rfl | hy
 ·exact h
 ·exact in1 g y hy
theorem in3' {α:Type} {P:α->Prop} {a b c:α} (h:P a) (g:P b) (k:P c):∀ y∈[a,b,c],P y:=fun y hy=>by
 rcases Gu.mp hy with rfl | hy
 ·exact h
 ·exact DO g k y hy
theorem in0 {α:Type} {P:α->Prop}:∀ y∈([]:List α),P y:=fun y hy=>by simp at hy
theorem l0 {α:Type} {l:List α} (h:l.length=0):l=[]:=Me h
theorem l1 {α:Type} {l:List α} (h:l.length=1):∃ a,l=[a]:=match l,h with | [a],_=>⟨a,rfl⟩
theorem l2 {α:Type} {l:List α} (h:l.length=2):∃ a b,l=[a,b]:=match l,h with | [a,b],_=>⟨a,b,rfl⟩
theorem l3 {α:Type} {l:List α} (h:l.length=3):∃ a b c,l=[a,b,c]:=match l,h with | [a,b,c],_=>⟨a,b,c,rfl⟩
theorem C5 {p:Int} {n k:Nat} {ns:List Int} {xs:List (List Int)} (hs:shape p=some (n,k)) (hn:ns.length=n) (hx:xs.length=k) (ha:asked1 (whole ((p::ns)::xs))=true):∃ nm ks x,AE p n k ns xs nm ks x:=by
 unfold PyWqaecr.shape at hs;by_cases h:p=0
 ·subst h;rw [Ga rfl] at hs;cases hs
  obtain rfl:=l0 hn;obtain ⟨r1,r2,rfl⟩:=l2 hx;have ha:(r1.all (fun (z:Int)=>natural z 8) && r2.all (fun (z:Int)=>natural z 8))=true:=ha
  rw [G8] at ha;exact ⟨_,_,_,U,U,(by decide),U,U,U,U,DO (gI ha.1) (gI ha.2),by
   show (big "text" (text r1) || (big "text" (text r2) || false)) = !(isText (text r1) && isText (text r2));rw [ir,ir,Jf,LX]⟩
 rw [F9 h] at hs;clear h;by_cases h:p=1
 ·subst h;rw [Ga rfl] at hs;cases hs
  obtain rfl:=l0 hn;obtain ⟨r1,r2,rfl⟩:=l2 hx;have ha:(r1.all (fun (z:Int)=>natural z 8) && r2.all (fun (z:Int)=>natural z 8))=true:=ha
  rw [G8] at ha;exact ⟨_,_,_,U,U,(by decide),U,U,U,U,DO (gI ha.1) (gI ha.2),by
   show (big "text" (text r1) || (big "text" (text r2) || false)) = !(isText (text r1) && isText (text r2));rw [ir,ir,Jf,LX]⟩
 rw [F9 h] at hs;clear h;by_cases h:p=2
 ·subst h;rw [Ga rfl] at hs;cases hs
  obtain rfl:=l0 hn;obtain ⟨r1,r2,rfl⟩:=l2 hx;have ha:(r1.all (fun (z:Int)=>natural z 8) && r2.all (fun (z:Int)=>natural z 8))=true:=ha
  rw [G8] at ha;exact ⟨_,_,_,U,U,(by decide),U,U,U,U,DO (gI ha.1) (gI ha.2),by
   show (big "text" (text r1) || (big "patch" (text r2) || false))=(!isText (text r1) || decide (JQ<(text r2).length));rw [ir,ve,Jf];rfl⟩
 rw [F9 h] at hs;clear h;by_cases h:p=3
 ·subst h;rw [Ga rfl] at hs;cases hs
  obtain rfl:=l0 hn;obtain ⟨r1,r2,rfl⟩:=l2 hx;have ha:(r1.all (fun (z:Int)=>natural z 8) && r2.all (fun (z:Int)=>natural z 8))=true:=ha
  rw [G8] at ha;exact ⟨_,_,_,U,U,(by decide),U,U,U,U,DO (gI ha.1) (gI ha.2),by
   show (big "text" (text r1) || (big "patch" (text r2) || false))=(!isText (text r1) || decide (JQ<(text r2).length));rw [ir,ve,Jf];rfl⟩
 rw [F9 h] at hs;clear h;by_cases h:p=4
 ·subst h;rw [Ga rfl] at hs;cases hs
  obtain rfl:=l0 hn;obtain ⟨r1,r2,r3,rfl⟩:=l3 hx;have ha:((r1.all (fun (z:Int)=>natural z 8) && r2.all (fun (z:Int)=>natural z 8)) && r3.all (fun (z:Int)=>natural z 8))=true:=ha
  rw [G8,G8] at ha;exact ⟨_,_,_,U,U,(by decide),U,U,U,U,in3' (gI ha.1.1) (gI ha.1.2) (gI ha.2),by
   show (big "text" (text r1) || (big "text" (text r2) || (big "text" (text r3) || false))) = !(isText (text r1) && (isText (text r2) && isText (text r3)));rw [ir,ir,ir,Jf,LX,LX]⟩
 rw [F9 h] at hs;clear h;by_cases h:p=5
 ·subst h;rw [Ga rfl] at hs;cases hs
  obtain ⟨n1,rfl⟩:=l1 hn;obtain rfl:=l0 hx;have ha:natural n1 64=true:=ha;exact ⟨_,_,_,rfl,rfl,(by decide),rfl,rfl,by show [(n1.toNat:Int)]=_;rw [iH ha],rfl,in0,rfl⟩
 rw [F9 h] at hs;clear h;by_cases h:p=6
 ·subst h;rw [Ga rfl] at hs;cases hs
  obtain ⟨n1,rfl⟩:=l1 hn;obtain ⟨r1,rfl⟩:=l1 hx;have ha:(natural n1 64 && r1.all (fun (z:Int)=>natural z 8))=true:=ha
  rw [G8] at ha;exact ⟨_,_,_,rfl,rfl,(by decide),rfl,rfl,by show [(n1.toNat:Int)]=_;rw [iH ha.1],rfl,in1 (gI ha.2),by
   show (big "history" (text r1) || false)=decide (LQ<(text r1).length);rw [FJ,Jf];rfl⟩
 rw [F9 h] at hs;clear h;by_cases h:p=7
 ·subst h;rw [Ga rfl] at hs;cases hs
  obtain ⟨n1,n2,n3,rfl⟩:=l3 hn;obtain ⟨r1,rfl⟩:=l1 hx;have ha:(((natural n1 64 && natural n2 64) && natural n3 64) && r1.all (fun (z:Int)=>natural z 8))=true:=ha
  rw [G8,G8,G8] at ha;exact ⟨_,_,_,rfl,rfl,(by decide),rfl,rfl,by show [(n1.toNat:Int),(n2.toNat:Int),(n3.toNat:Int)]=_;rw [iH ha.1.1.1,iH ha.1.1.2,iH ha.1.2],rfl,in1 (gI ha.2),by
   show (big "text" (text r1) || false) = !isText (text r1);rw [ir,Jf]⟩
 rw [F9 h] at hs;clear h;by_cases h:p=8
 ·subst h;rw [Ga rfl] at hs;cases hs
  obtain ⟨n1,n2,rfl⟩:=l2 hn;obtain rfl:=l0 hx;have ha:(natural n1 64 && natural n2 64)=true:=ha;rw [G8] at ha;exact ⟨_,_,_,rfl,rfl,(by decide),rfl,rfl,by show [(n1.toNat:Int),(n2.toNat:Int)]=_;rw [iH ha.1,iH ha.2],rfl,in0,rfl⟩
 rw [F9 h] at hs;clear h;by_cases h:p=9
 ·subst h;rw [Ga rfl] at hs;cases hs
  obtain ⟨n1,n2,rfl⟩:=l2 hn;obtain rfl:=l0 hx;have ha:(natural n1 64 && natural n2 64)=true:=ha;rw [G8] at ha;exact ⟨_,_,_,rfl,rfl,(by decide),rfl,rfl,by show [(n1.toNat:Int),(n2.toNat:Int)]=_;rw [iH ha.1,iH ha.2],rfl,in0,rfl⟩
 rw [F9 h] at hs;clear h;by_cases h:p=10
 ·subst h;rw [Ga rfl] at hs;cases hs
  obtain ⟨n1,n2,n3,rfl⟩:=l3 hn;obtain rfl:=l0 hx;have ha:((natural n1 64 && natural n2 64) && natural n3 64)=true:=ha;rw [G8,G8] at ha;exact ⟨_,_,_,rfl,rfl,(by decide),rfl,rfl,by show [(n1.toNat:Int),(n2.toNat:Int),(n3.toNat:Int)]=_;rw [iH ha.1.1,iH ha.1.2,iH ha.2],rfl,in0,rfl⟩
 rw [F9 h] at hs;clear h;by_cases h:p=11
 ·subst h;rw [Ga rfl] at hs;cases hs
  obtain ⟨n1,n2,rfl⟩:=l2 hn;obtain rfl:=l0 hx;have ha:(natural n1 64 && natural n2 64)=true:=ha;rw [G8] at ha;exact ⟨_,_,_,rfl,rfl,(by decide),rfl,rfl,by show [(n1.toNat:Int),(n2.toNat:Int)]=_;rw [iH ha.1,iH ha.2],rfl,in0,rfl⟩
 rw [F9 h] at hs;clear h;by_cases h:p=12
 ·subst h;rw [Ga rfl] at hs;cases hs
  obtain ⟨n1,rfl⟩:=l1 hn;obtain rfl:=l0 hx;have ha:natural n1 64=true:=ha;exact ⟨_,_,_,rfl,rfl,(by decide),rfl,rfl,by show [(n1.toNat:Int)]=_;rw [iH ha],rfl,in0,rfl⟩
 rw [F9 h] at hs;cases hs
theorem yS {f:Nat} {l:List Int} {cs:List (List (List Int))} (h:J5 shape f l=some cs):(l=[]/\cs=[])∨∃ p r n k xs t f' cs',l=p::r/\shape p=some (n,k)/\n<=r.length/\Jc k (r.drop n)=some (xs,t)/\cs=((p::r.take n)::xs)::cs'/\J5 shape f' t=some cs':=by
 cases l with
 | nil =>
  cases f <;> (cases h;exact .inl ⟨rfl,rfl⟩)
 | cons p r =>
  cases f with
  | zero=>cases h
  | succ f =>
   unfold J5 at h;cases hc:PyFlat.call shape (p::r) with
   | none=>rw [hc] at h;cases h
   | some q =>
    rw [hc] at h;obtain ⟨c,t⟩:=q;simp only at h;cases hr:J5 shape f t with
    | none=>rw [hr] at h;cases h
    | some cs' =>
     rw [hr] at h;cases h;unfold PyFlat.call at hc;simp only at hc;cases hs:shape p with
     | none=>rw [hs] at hc;cases hc
     | some q =>
      obtain ⟨n,k⟩:=q;rw [hs] at hc;simp only at hc;split at hc
      ·cases hc
      ·rename_i hn
       cases hw:Jc k (r.drop n) with
       | none=>rw [hw] at hc;cases hc
       | some q =>
        obtain ⟨xs,t'⟩:=q;rw [hw] at hc;cases hc;exact .inr ⟨p,r,n,k,xs,t,f,cs',U,hs,by omega,hw,U,hr⟩
theorem y6.to {CC:Gf} {H:Hp} {y:Gf} {p:Int} {n k:Nat} {ns:List Int} {xs:List (List Int)} {nm:G9} {ks:List G9} {x:Ig} (h:y6 CC H y nm ns xs (bigs ks xs)) (o:AE p n k ns xs nm ks x):tK CC H y x (large x):=by
 obtain ⟨dx,la,lr,ras,e1,e2,e3,e4⟩:=h;refine ⟨dx,la,lr,ras,?_,?_,e3,?_,fun i r b g1 g2=>?_⟩
 ·rw [o.name,← o.big];exact e1
 ·rw [e2,← o.nums,Ic];rfl
 ·rw [o.rows,Ge,e4.len]
 ·rw [o.rows] at g2
  obtain ⟨z,hz,rfl⟩:=fz g2;rw [e4.at_ i r z g1 hz,o.bytes z (HG hz)]
theorem SqL.same' {K:Gh} {H H':Hp} {a:Gf} {xs:List V} (h:SqL K H a xs) (s:eT H H'):SqL K H' a xs:=by
 rcases h with (h | ⟨o,h⟩) | h
 ·exact .inl (.inl (s _ _ h))
 ·exact .inl (.inr ⟨o,s _ _ h⟩)
 ·exact .inr h
def m8 (K:Gh):Sp:=fun vs H Q _=>∃ (a:Gf) (l:List Int),vs=[.ref a]/\SqL K H a (l.map V.int)/\KZ l=true/\∀ (H':Hp) (r:Gf),eT H H'->H r=none->H' r=some (.lst ((IP l).map V.int))->Q (.ref r) H'
theorem BE {l:List Int} (h:KZ l=true):∃ f cs,J5 shape f l=some cs/\cs.length<=300/\(∀ c∈cs,asked1 (whole c)=true)/\IP l=told (played Ix Js (cs.map whole))/\(IP l).length<=10000000:=by
 unfold KZ at h;cases hc:PyWqaecr.calls l with
 | none=>rw [hc] at h;cases h
 | some ws =>
  rw [hc] at h;simp only at h;rw [G8,G8] at h;obtain ⟨⟨h1,h2⟩,h3⟩:=h;have ha:IP l=told (played Ix Js ws):=by
   unfold IP;rw [hc]
  unfold PyWqaecr.calls at hc;cases hf:J5 shape l.length l with
  | none=>rw [hf] at hc;cases hc
  | some cs =>
   rw [hf] at hc;cases hc;refine ⟨_,cs,hf,?_,fun c hc=>?_,ha,Gd h3⟩
   ·have:=Gd h1
    rwa [Ge] at this
   ·exact Kj.mp h2 _ (JT hc)
theorem AK (a:List Int) (l:List (List Int)):told (a::l)=((a.length:Int)::a)++told l:=rfl
theorem sv:eM ["calls","reader","shelf","answered","answer"] ["calls"] (defScope qr):=mkSc
theorem yC {f C CC CV CH CS:Gf} {fd:GG} (F:Fun K "answers" "answers" qr f fd) (TC:TxC K mg C) (TS:yU K CS) (GC:Cl P w K mg base 1 C "CallReader" ["self","calls"] (zD C)) (GS:Cl P w K mg base 1 CS "Shelf" ["self"] (zq CS)) (GM:Md P w K mg base 1 C "has_more" ["self"] (BW K C)) (GR:Md P w K mg base 11 C "read_call" ["self"] (rV K C CC AM)) (GA:Md P w K mg base 21 CS "answer" ["self","call"] (zp CC CV CH CS)) :
  ff P w K mg base (CXF P w) 22 f fd ["calls"] (m8 K):=by
 refine okN (k:=21) F sv fun cdv A outer s H vs Q E hr h=>?_
 ·obtain ⟨a,l,rfl,hL,ask,k⟩:=h
  have nd:=sv.nd;have hr1:fi 1 _:=hr.mono (by decide);have hr2:fi 2 _:=hr.mono (by decide);have hr11:fi 11 _:=hr.mono (by decide);refine ⟨_,eE (eO (i:=1) nd U (Gy U) (uE GC hr2 U eG (eA (pv 0) eF)))
   (eE (eO (i:=2) nd U (Gy U) (vH GS hr2 U eG))
   (eE (eO (i:=3) nd U (Gy U) (fP eF))
   (eE (mF Hz (kj (iF (pv 1) TC.cl GM hr1 eG))
    (eE (eO (i:=4) nd U (Gy U) (f6 (pv 2) TS.cl GA hr eG (eA (iF (pv 1) TC.cl GR hr11 eG) eF)))
    (eE (fe (gm Gw HJ HI gG (pv 3) (eA (eU eL U TC.len Gz (eA (pv 4) eF)) eF)))
    (eI (fe (gm Gw Hc Hb fQ (pv 3) (eA (pv 4) eF)))))))
   (eI (eP (pv 3)))))),?_⟩
  have szl:sizeLine=16777216:=Hj;obtain ⟨f0,cs0,c1,c2,c3,c4,c5⟩:=BE ask;refine ⟨_,U,fun r dr nr ndr ner=>⟨r,dr,a,U,eC,fun H1 hR1 b1=>⟨U,?_⟩⟩⟩
  have s1:eT H H1:=gX nr ndr b1;refine fun s ds ns nds nes=>⟨s,ds,U,eC,fun H2 d nd' hs hd b2=>⟨U,?_⟩⟩
  have s12:eT H1 H2:=gX ns nds b2;have s2:=s1.trans s12;have hR2:tJ C H2 r a 0:=let ⟨dx,e⟩:=hR1;⟨dx,s12 _ _ e⟩
  have ns0:H s=none:=s1.free ns;have nd1:H1 d=none:=(rq (C:=CS) ns nds nes).free nd';have nd0:H d=none:=s1.free nd1;obtain ⟨dr1,er1⟩:=id hR1;have sr:s≠r:=fun z=>by rw [z,er1] at ns;cases ns
  have dr':d≠r:=fun z=>by rw [z,er1] at nd1;cases nd1
  refine ⟨G5 _,fun Al nA=>?_⟩
  have s3:=s2.new (o := .lst []) nA;have s23:=L2.upN (o := .lst []) nA;have nA0:H Al=none:=s2.free nA;have As:Al≠s:=fun z=>by rw [z,hs] at nA;cases nA
  have Ad:Al≠d:=fun z=>by rw [z,hd] at nA;cases nA
  obtain ⟨dr2,er2⟩:=id hR2;have Ar:Al≠r:=fun z=>by rw [z,er2] at nA;cases nA
  have sd:s≠d:=fG hs hd (by intro z;cases z);have sh0:jQ CV CH CS (upd H2 Al (.lst [])) (fun _=>False) (fun b=>b=d) s d 0 Js:=by
   have gn:∀ o,gst Js o=none:=fun o=>by
    unfold gst Js VersionNs.start IX;rw [List.getElem?_replicate];split <;> rfl
   exact ⟨ds,[],fun _=>(0,0,[]),s23 _ _ hs,s23 _ _ hd,Go _,rfl,rfl,sd,fun o h e=>(by rw [gn] at e;cases e),fun o _=>rfl,fun o p _ e=>absurd (gn o) e⟩
  let Inv:List (List (List Int))->L2.St->Hp->Prop:=fun cs σ H'=>∃ (n i:Nat) (st:State) (don:List Int) (ok mu:Gf->Prop) (v4:Option V),σ=[some (.ref a),some (.ref r),some (.ref s),some (.ref Al),v4]/\eT H H'/\tJ C H' r a n/\n<=l.length/\(∃ f,J5 shape f (l.drop n)=some cs)/\(∀ c∈cs,asked1 (whole c)=true) /\
   jQ CV CH CS H' ok mu s d i st/\i+cs.length<=300/\H' Al=some (.lst (don.map V.int))/\don++told (played Ix st (cs.map whole))=IP l/\¬ mu r/\¬ mu Al/\¬ ok Al/\∀ b,mu b->H b=none
  refine ⟨fun m σ H'=>∃ cs,m=cs.length/\Inv cs σ H',⟨cs0.length,cs0,rfl,0,0,_,[],_,_,none,rfl,s3,⟨dr2,s23 _ _ er2⟩,G5 _,⟨f0,c1⟩,c3,sh0,by omega,eC,c4.symm,HA dr',Ad,fun z=>z,fun b z=>by rw [z];exact nd0⟩,?_⟩
  rintro m σ H3 ⟨cs,rfl,n,i,st,don,ok,mu,v4,rfl,t3,hR3,hn,⟨f,hf⟩,ha,hS,hi,hA,ean,m1,m2,m3,m4⟩
  obtain ⟨dr3,er3⟩:=id hR3;have hL3:SqL K H3 a (l.map V.int):=SqL.same' hL t3;have cno:∀ {m:G9} (x:Int),¬ m = "at" -> ¬ m = "calls" -> (cf a x).lookup m=none:=fun x h1 h2=>D8 _ _ h1 h2
  refine ⟨_,U,r,dr3,_,U,er3,cno _ (by decide +kernel) (by decide +kernel),r,a,l,n,U,hR3,hL3,_,U,?_⟩;rcases yS hf with ⟨e0,rfl⟩ | ⟨p,rest,c,kk,xs,t,f',cs',e0,hs1,hc,hrow,rfl,hf'⟩
  ·have nl:¬ n<l.length:=fun z=>by
    have:=congrArg Ih e0;rw [Hv] at this;simp at this;omega
   rw [Gc nl];refine (F9 (by decide)).mpr ?_;have ean:don++[]=IP l:=ean;rw [Iq] at ean;exact ⟨_,U,k H3 Al t3 nA0 (by rw [hA,ean])⟩
  ·have nl:n<l.length:=by
    by_cases z:n<l.length
    ·exact z
    ·rw [Hn (by omega)] at e0
     cases e0
   rw [Gb nl];refine (Ga U).mpr ⟨Inv cs',fun σ' H' h=>⟨cs'.length,by simp,cs',U,h⟩,?_⟩
   have hx:=sC _ hrow;have hcl:(rest.take c).length=c:=by rw [HF];omega
   obtain ⟨nm,ks,x,oc⟩:=C5 hs1 hcl hx (ha _ Hf);obtain ⟨dxs,kvs,mm,x1,x2,x3,x4,x5,x6,x7,x8,x9⟩:=id hS;refine ⟨_,U,s,dxs,_,U,x1,Cb _ (by decide +kernel),_,U,r,dr3,_,U,er3,cno _ (by decide +kernel) (by decide +kernel),?_⟩;have kl:ks.length<=10:=by rw [oc.len];exact oc.short
   refine ⟨r,a,l,n,p,rest,nm,c,ks,xs,t,U,hR3,hL3,e0,oc.tbl,hc,kl,by rw [oc.len];exact hrow,oc.bytes,fun H4 y b4 hR4 ed hy=>?_⟩
   have cv:=hy.to oc;have t4:eT H H4:=t3.butOf b4 nr;obtain ⟨dr4,er4⟩:=id hR4;have kp4:Kp ok H3 H4:=⟨fun b zs _ e=>b4 _ _ e (fG e er3 (by intro z;cases z)),fun b zs e=>b4 _ _ e (fG e er3 (by intro z;cases z))⟩
   have hS4:=hS.keep kp4 fun b o hb e=>b4 b o e fun z=>by
    rw [z] at hb;exact hb.elim m1 fun z=>sr z.symm
   have hA4:=b4 _ _ hA Ar;have eg:Ix st (whole ((p::rest.take c)::xs))=((IQ st x).1,numbersOf (IQ st x).2):=by
    unfold Ix;rw [oc.call]
   have ean:don++told ((Ix st (whole ((p::rest.take c)::xs))).2::played Ix (Ix st (whole ((p::rest.take c)::xs))).1 (cs'.map whole))=IP l:=ean;rw [eg,AK] at ean;have hi:i+(cs'.length+1)<=300:=hi;refine ⟨s,d,y,ok,mu,i,st,x,U,hS4,by omega,cv,fun H5 ans ok' mu' g1 g2 g3 sh nans hans=>?_⟩
   generalize IQ st x=R at ean sh hans;have hans:H5 ans=some (.lst ((numbersOf R.2).map V.int)):=hans;generalize numbersOf R.2=nb at ean hans;have ean:don++(((nb.length:Int)::nb)++told (played Ix R.1 (cs'.map whole)))=IP l:=ean;have len:=congrArg Ih ean;rw [Gi,Gi,GQ] at len;have t5:eT H H5:=fun b o e=>g1 b o (fun z=>by have:=m4 b z;rw [e] at this;cases this) (t4 b o e)
   have hA5:=g1 _ _ m2 hA4;have er5:=g1 _ _ m1 er4;have ansA:ans≠Al:=fun z=>by rw [z,hA4] at nans;cases nans
   have nmr:¬ mu' r:=fun z=>(g3 r z).elim m1 fun z=>by rw [er4] at z;cases z
   have nmA:¬ mu' Al:=fun z=>(g3 Al z).elim m2 fun z=>by rw [hA4] at z;cases z
   have noA:¬ ok' Al:=fun z=>(g2 Al z).elim m3 fun z=>by rw [hA4] at z;cases z
   refine ⟨_,U,.inl ⟨U,_,SqL.of hA5⟩,_,U,ans,_,U,.inl (SqL.of hans),Al,_,_,U,U,hA5,by rw [Ge];omega,?_⟩;have h6:upd H5 Al (.lst (don.map V.int++[V.int ((nb.map V.int).length:Nat)])) ans=some (.lst (nb.map V.int)):=by rw [eK ansA];exact hans
   refine ⟨_,rfl,.inl ⟨rfl,_,SqL.of eC⟩,_,rfl,Al,ans,_,_,rfl,rfl,eC,h6,by rw [Gi,Ge,Ge];show _+1+_<=_;omega,?_⟩;have kq:∀ (o1 o2:HO) (b:Gf) (o:HO),b≠Al->H5 b=some o->upd (upd H5 Al o1) Al o2 b=some o:=fun o1 o2 b o n e=>by
    rw [eK n,eK n];exact e
   have sA:s≠Al:=HA As;refine ⟨l.length-t.length,i+1,R.1,don++((nb.length:Int)::nb),ok',mu',_,U,(t5.own nA0).own nA0,⟨dr4,kq _ _ _ _ (HA Ar) er5⟩,by omega,⟨f',by rw [ed];exact hf'⟩,fun c hc=>ha c (G3 _ hc),?_,by omega,?_,?_,nmr,nmA,noA,fun b z=>(g3 b z).elim (m4 b) fun z=>t4.free z⟩
   ·refine sh.keep ⟨fun b zs ob e=>kq _ _ _ _ (fun z=>noA (z▸ob)) e,fun b zs e=>kq _ _ _ _ (fG e hA5 (by intro z;cases z)) e⟩ fun b o hb e=>kq _ _ _ _ (fun z=>?_) e
    rw [z] at hb;exact hb.elim nmA fun z=>sA z.symm
   ·rw [eC,Gr,Hx,Ge]
    rfl
   ·rw [Hx]
    exact ean
end Lp
namespace L2
open PySem PySem.Spec PyProof.Rows
section
variable {K:Gh} {h:GZ} {mg:G9->Option Gg}
theorem gH {x:G9} {i:Int} {t:Tok} (X:K.In h) (G:h.Ns mainGlobals mg) (e:HV K mainGlobals x=some (some (.int i t))):fW mg x i:=⟨t,Ke X G e⟩
theorem F3 {x:G9} {a:Gf} {xs:List V} {oc:Gg} {od:Option Gf} {its:Array Gg} {n:Nat} {sl:Array (Option Gg)} (X:K.In h) (G:h.Ns mainGlobals mg) (e:HV K mainGlobals x=some (some (.ref a))) (l:K.lookup a=some ⟨oc,od,.seq its n,sl⟩) (c:oc = .type "tuple") (z:its.size<=sizeLine) (v:fu xs its.toList):BI K mg x xs :=
 ⟨a,Ke X G e,fun H => .inr ⟨_,its,n,l,c,rfl,z,v⟩⟩
structure fC (K:Gh) (mg:G9->Option Gg) (x qual:G9) (st:HH):Prop where
 ex:∃ (f:Gf) (fd:GG),mg x=some (.ref f)/\HL K (.ref f)=true/\Fun K x qual st f fd
theorem fk {x qual:G9} {st:HH} {f:Gf} {oc:Gg} {od an:Option Gf} {osl:Array (Option Gg)} {kV doc pm cdv ct:Gg} (X:K.In h) (G:h.Ns mainGlobals mg) (a:HV K mainGlobals x=some (some (.ref f))) (l:K.lookup f=some ⟨oc,od,.func (IA x qual (ig st) (gS st) (defScope st) .none kV doc pm an cdv ct),osl⟩)
  (c:J3 K cdv qual=true) (k:HL K (.ref f)=true):fC K mg x qual st:=⟨f,_,Ke X G a,k,yK l c k⟩
structure fS (K:Gh) (C:Gf) (m qual:G9) (st:HH):Prop where
 ex:∃ (f:Gf) (fd:GG),Ei K C m f/\Fun K m qual st f fd
theorem fN {C:Gf} {m qual:G9} {st:HH} {f:Gf} {oc:Gg} {od an:Option Gf} {osl:Array (Option Gg)} {kV doc pm cdv ct:Gg} (a:II K (.ref C) m=some (some (.ref f))) (i:Kt K (.ref f)=true) (l:K.lookup f=some ⟨oc,od,.func (IA m qual (ig st) (gS st) (defScope st) .none kV doc pm an cdv ct),osl⟩)
  (c:J3 K cdv qual=true) (k:HL K (.ref f)=true):fS K C m qual st:=⟨f,_,⟨a,i,k⟩,yK l c k⟩
section
variable {P:Hk} {w:Hy} {base:GZ} {k:Nat} {ps:List G9} {sp:Sp}
theorem fC.fn {x qual:G9} {st:HH} (D:fC K mg x qual st) (hb:∀ (kV doc pm:Gg) (an:Option Gf) (cdv ct:Gg) (us:List Gg),us.length=ps.length->bindArgs (IA x qual (ig st) (gS st) (defScope st) .none kV doc pm an cdv ct) ⟨us,[]⟩=pure (ps.zip us))
  (ok:∀ f fd,Fun K x qual st f fd->ff P w K mg base (CXF P w) k f fd ps sp):Fn P w K mg base k x ps sp:=by
 obtain ⟨f,fd,h1,h2,h3⟩:=D.ex;exact ⟨f,fd,h1,h2,h3.binds hb,ok f fd h3⟩
theorem fS.md {C:Gf} {m qual:G9} {st:HH} (D:fS K C m qual st) (hb:∀ (kV doc pm:Gg) (an:Option Gf) (cdv ct:Gg) (us:List Gg),us.length=ps.length->bindArgs (IA m qual (ig st) (gS st) (defScope st) .none kV doc pm an cdv ct) ⟨us,[]⟩=pure (ps.zip us))
  (ok:∀ f fd,Fun K m qual st f fd->ff P w K mg base (CXF P w) k f fd ps sp):Md P w K mg base k C m ps sp:=by
 obtain ⟨f,fd,h1,h3⟩:=D.ex;exact ⟨f,fd,h1,h3.binds hb,ok f fd h3⟩
theorem fS.clm {C:Gf} {x qual:G9} {st:HH} (D:fS K C "__init__" qual st) (hx:mg x=some (.ref C)) (mk:Kl K C=true) (kc:HL K (.ref C)=true) (hb:∀ (kV doc pm:Gg) (an:Option Gf) (cdv ct:Gg) (us:List Gg),us.length=ps.length->bindArgs (IA "__init__" qual (ig st) (gS st) (defScope st) .none kV doc pm an cdv ct) ⟨us,[]⟩=pure (ps.zip us))
  (ok:∀ f fd,Fun K "__init__" qual st f fd->ff P w K mg base (CXF P w) k f fd ps sp):Cl P w K mg base k C x ps sp:=by
 obtain ⟨f,fd,h1,h3⟩:=D.ex;exact ⟨hx,f,fd,⟨mk,h1.at_,h1.fn,kc⟩,h3.binds hb,ok f fd h3⟩
end
theorem ns_mk {N:Gf} {oc:Gg} {od:Option Gf} {es:Array IZ} {n:Nat} {sl:Array (Option Gg)} (l:K.lookup N=some ⟨oc,od,.dict es n,sl⟩) (sk:StrKeys es) (h':GZ) (X:K.In h'):h'.Ns N (nsFind es):=⟨_,es,n,X _ _ l,rfl,sk,fun _=>rfl⟩
theorem nJ {N:Gf} {oc:Gg} {od:Option Gf} {es:Array IZ} {n:Nat} {sl:Array (Option Gg)} {x:G9} {r:Option Gg} (l:K.lookup N=some ⟨oc,od,.dict es n,sl⟩) (e:HV K N x=some r):nsFind es x=r:=by
 unfold HV at e;rw [l] at e;simp only at e;unfold nsFind findBy;rw [← Array.find?_toList];split at e
 ·rename_i en he
  cases e;rw [he];rfl
 ·rename_i he
  split at e
  ·cases e
  ·cases e
   rw [he];rfl
theorem El {C N fI:Gf} {nm q:G9} {bs:List Gg} {sn:List G9} {sub:List Gg} {ab:Bool} {col:Option Bool} {dd:Option Gf} {k0 k1 k2 k3 k5:Option Gg} {oc:Gg} {od:Option Gf} {es:Array IZ} {n:Nat} {sl:Array (Option Gg)} {a b:G9}
  (l:K.lookup C=some (excClassObj nm q C N bs bmE true sn sub ab col dd k0 k1 k2 k3 k5 "Exception.__new__")) (lN:K.lookup N=some ⟨oc,od,.dict es n,sl⟩) (sk:StrKeys es) (i1:HV K N "__init__"=some (some (.ref fI))) (i2:HV K N "__setattr__"=some none) (i3:HV K N "__getattribute__"=some none) (i4:HV K N "__getattr__"=some none)
  (ia:HV K N a=some none) (ib:HV K N b=some none) (oa:typeLookup (.type "Exception") a=pure none) (ob:typeLookup (.type "Exception") b=pure none) (fn:Kt K (.ref fI)=true) (kp:HL K (.ref C)=true):qU K C fI [a,b]:=by
 refine ⟨fun h' X=>⟨nm,q,N,bs,sn,sub,ab,col,dd,k0,k1,k2,k3,k5,nsFind es,X _ _ l,ns_mk lN sk h' X,nJ lN i1,nJ lN i2,nJ lN i3,nJ lN i4,fun x hx=>?_⟩,fun x hx=>?_,fun h' X=>?_,kp⟩
 ·rcases Gu.mp hx with rfl | hx
  ·exact nJ lN ia
  ·rw [G7.mp hx];exact nJ lN ib
 ·rcases Gu.mp hx with rfl | hx
  ·exact oa
  ·rw [G7.mp hx];exact ob
 ·have e:(K.lookup fI).map (·.cls)=some (.type "function"):=by
   have:=beq_iff_eq.mp fn;exact this
  obtain ⟨o,ho,hc⟩:=Option.map_eq_some_iff.mp e;exact ⟨o,X _ _ ho,hc⟩
structure we (K:Gh) (C:Gf):Prop where
 cl:Cls K C
 makes:Kl K C=true
 kp:HL K (.ref C)=true
theorem oO {x:G9} {C:Gf} {Z:Gf->Prop} (X:K.In h) (G:h.Ns mainGlobals mg) (a:HV K mainGlobals x=some (some (.ref C))) (pg:Ka K C G9.empty=true) (hd:KO K C=true) (po:LI K C=true) (sa:II K (.ref C) "__setattr__"=some (some (.builtin "object.__setattr__")))
  (mk:Kl K C=true) (kc:HL K (.ref C)=true) (z:Z C):∃ C,mg x=some (.ref C)/\we K C/\Z C:=⟨C,Ke X G a,⟨⟨pg,hd,po,sa⟩,mk,kc⟩,z⟩
theorem xf_mk {x qual:G9} {st:HH} {C N fI:Gf} {nm q:G9} {bs:List Gg} {sn:List G9} {sub:List Gg} {ab:Bool} {col:Option Bool} {dd:Option Gf} {k0 k1 k2 k3 k5:Option Gg} {oc:Gg} {od:Option Gf} {es:Array IZ} {n:Nat} {sl:Array (Option Gg)} {a b:G9}
  {oc':Gg} {od' an:Option Gf} {osl:Array (Option Gg)} {kV doc pm cdv ct:Gg} (X:K.In h) (G:h.Ns mainGlobals mg) (hC:HV K mainGlobals x=some (some (.ref C)))
  (l:K.lookup C=some (excClassObj nm q C N bs bmE true sn sub ab col dd k0 k1 k2 k3 k5 "Exception.__new__")) (lN:K.lookup N=some ⟨oc,od,.dict es n,sl⟩) (sk:StrKeys es) (i1:HV K N "__init__"=some (some (.ref fI))) (i2:HV K N "__setattr__"=some none) (i3:HV K N "__getattribute__"=some none) (i4:HV K N "__getattr__"=some none)
  (ia:HV K N a=some none) (ib:HV K N b=some none) (oa:typeLookup (.type "Exception") a=pure none) (ob:typeLookup (.type "Exception") b=pure none) (fn:Kt K (.ref fI)=true) (kp:HL K (.ref C)=true)
  (lf:K.lookup fI=some ⟨oc',od',.func (IA "__init__" qual (ig st) (gS st) (defScope st) .none kV doc pm an cdv ct),osl⟩) (c:J3 K cdv qual=true) (kf:HL K (.ref fI)=true):∃ C fI fd,mg x=some (.ref C)/\qU K C fI [a,b]/\Fun K "__init__" qual st fI fd :=
 ⟨C,fI,_,Ke X G hC,El l lN sk i1 i2 i3 i4 ia ib oa ob fn kp,yK lf c kf⟩
theorem gd_mk {P:Hk} {w:Hy} {x:G9} {A:Gf} {es:Array IZ} {n:Nat} {rs:List (Int×Tok×Gg)} {kvs:List (Key×V)} (X:K.In h) (G:h.Ns mainGlobals mg) (a:HV K mainGlobals x=some (some (.ref A))) (l:K.lookup A=some { cls := .type "dict",data := .dict es n })
  (he:es.toList=rs.map fun r=>⟨hashInt r.1,.int r.1 r.2.1,r.2.2⟩) (hn:(rs.map (·.1)).Nodup) (kv:KV kvs (rs.map fun r=>((Hm r.1:Key),r.2.2))):Ej P w K mg x kvs:=by
 refine ⟨A,_,Ke X G a,kv,fun h' X'=>⟨_,es,n,X' _ _ l,⟨rfl,rfl,rfl⟩,rfl,fun e hm=>?_,?_,?_⟩⟩
 ·have hm':e∈es.toList:=Array.mem_toList_iff.mpr hm
  rw [he] at hm';obtain ⟨r,_,rfl⟩:=IM.mp hm';exact ⟨Hm r.1,mL P w r.1 r.2.1,rfl⟩
 ·rw [he]
  clear he hn kv;induction rs with
  | nil=>exact .nil
  | cons r rs ih=>exact .cons (mL P w r.1 r.2.1) rfl ih
 ·rw [Ic]
  have:(rs.map fun r=>(Hm r.1:Key))=(rs.map (·.1)).map Hm:=by rw [Ic];rfl
  show (rs.map fun r=>(Hm r.1:Key)).Nodup
  rw [this];exact hn.map _ fun p q hpq e=>hpq (by injection e)
end
end L2
namespace L2
open PySem PySem.Spec PyProof.Rows
section
variable {K:Gh} {mg:G9->Option Gg} {P:Hk} {w:Hy} {base:GZ} {k:Nat} {ps:List G9} {sp:Sp}
theorem fC.go {x qual:G9} {st:HH} (D:fC K mg x qual st) (ok:∀ f fd,Fun K x qual st f fd->ff P w K mg base (CXF P w) k f fd ps sp)
  (hb:∀ (kV doc pm:Gg) (an:Option Gf) (cdv ct:Gg) (us:List Gg),us.length=ps.length->bindArgs (IA x qual (ig st) (gS st) (defScope st) .none kV doc pm an cdv ct) ⟨us,[]⟩=pure (ps.zip us):=by intro _ _ _ _ _ _ us hl;rcases us with _ | ⟨_,_ | ⟨_,_ | ⟨_,_ | ⟨_,_ | ⟨_,_ | ⟨_,_⟩⟩⟩⟩⟩⟩ <;> first | rfl | cases hl):Fn P w K mg base k x ps sp:=D.fn hb ok
theorem fS.go {C:Gf} {m qual:G9} {st:HH} (D:fS K C m qual st) (ok:∀ f fd,Fun K m qual st f fd->ff P w K mg base (CXF P w) k f fd ps sp)
  (hb:∀ (kV doc pm:Gg) (an:Option Gf) (cdv ct:Gg) (us:List Gg),us.length=ps.length->bindArgs (IA m qual (ig st) (gS st) (defScope st) .none kV doc pm an cdv ct) ⟨us,[]⟩=pure (ps.zip us):=by intro _ _ _ _ _ _ us hl;rcases us with _ | ⟨_,_ | ⟨_,_ | ⟨_,_ | ⟨_,_ | ⟨_,_ | ⟨_,_⟩⟩⟩⟩⟩⟩ <;> first | rfl | cases hl):Md P w K mg base k C m ps sp:=D.md hb ok
theorem fS.goC {C:Gf} {x qual:G9} {st:HH} (D:fS K C "__init__" qual st) (hx:mg x=some (.ref C)) (cf:we K C) (ok:∀ f fd,Fun K "__init__" qual st f fd->ff P w K mg base (CXF P w) k f fd ps sp)
  (hb:∀ (kV doc pm:Gg) (an:Option Gf) (cdv ct:Gg) (us:List Gg),us.length=ps.length->bindArgs (IA "__init__" qual (ig st) (gS st) (defScope st) .none kV doc pm an cdv ct) ⟨us,[]⟩=pure (ps.zip us):=by intro _ _ _ _ _ _ us hl;rcases us with _ | ⟨_,_ | ⟨_,_ | ⟨_,_ | ⟨_,_ | ⟨_,_ | ⟨_,_⟩⟩⟩⟩⟩⟩ <;> first | rfl | cases hl):Cl P w K mg base k C x ps sp:=D.clm hx cf.makes cf.kp hb ok
end
end L2
namespace Lp
open PySem PySem.Spec PyProof.Rows L2
theorem top_mk {P:Hk} {w:Hy} {K:Gh} {h:GZ} {mg:G9->Option Gg} {fa:Gf} (_:K.In h) (_:h.Ns mainGlobals mg) (hfa:mg "answers"=some (.ref fa))
  (aa:mg "len"=none)
  (aV:mg "tuple"=none)
  (aW:mg "enumerate"=none)
  (aX:mg "sum"=none)
  (aY:mg "min"=none)
  (ap:mg "range"=none)
  (aq:mg "reversed"=none)
  (ar:mg "list"=none)
  (aZ:mg "dict"=none)
  (au:mg "max"=none)
  (a0:mg "sorted"=none)
  (av:fW mg "LINE_END" 10)
  (a1:fW mg "MOST_BYTES" 65536)
  (a2:fW mg "MOST_LINES" 2048)
  (a3:fW mg "ENDS_EARLY" 1)
  (a4:fW mg "WRONG_HEAD" 2)
  (a5:fW mg "WRONG_NUMBER" 3)
  (a6:fW mg "LEFT_OVER" 4)
  (a7:fW mg "MARK_LENGTH" 7)
  (a8:fW mg "MARK_BEFORE" 60)
  (a9:fW mg "MARK_BETWEEN" 61)
  (ba:fW mg "MARK_BEHIND" 62)
  (aw:fW mg "MOST_VERSIONS" 64)
  (bb:fW mg "MOST_KEPT" 1048576)
  (bc:fW mg "NO_PARENT" 4294967295)
  (bd:fW mg "WRONG_KEPT" 5)
  (be:fW mg "TOO_MUCH_KEPT" 6)
  (bf:fW mg "LAST_HISTORY" 3)
  (bg:fW mg "MOST_PATCH_BYTES" 131072)
  (bh:fW mg "MOST_HISTORY_BYTES" 1200000)
  (bi:fW mg "OUT_OF_RANGE" (-1))
  (bj:fW mg "WRONG_PARENTS" (-1))
  (bk:fW mg "TOO_LARGE" (-2))
  (bl:fW mg "NOT_BEGUN" (-3))
  (bm:fW mg "NO_ROOM" (-3))
  (bn:fW mg "NO_BASE" (-3))
  (bo:fW mg "NO_VERSION" (-4))
  (bp:fW mg "FAULTY" (-6))
  (bq:BI K mg "PATCH_HEAD" ((Hw "SWV1").map vb))
  (br:BI K mg "HISTORY_HEAD" ((Hw "SWVH").map vb))
  (bs:fC K mg "split_lines" "split_lines" kK)
  (bt:fC K mg "join_lines" "join_lines" lR)
  (bu:fC K mg "lacks_end" "lacks_end" mC)
  (bv:fC K mg "last_lacks_end" "last_lacks_end" jj)
  (bw:fC K mg "count_lines" "count_lines" kQ)
  (bx:fC K mg "is_too_large" "is_too_large" jZ)
  (bz:fC K mg "are_too_large" "are_too_large" iw)
  (bA:fC K mg "line_masks" "line_masks" lQ)
  (bB:fC K mg "droppable_rows" "droppable_rows" jk)
  (bC:fC K mg "same_ahead" "same_ahead" lL)
  (bD:fC K mg "kept_pairs" "kept_pairs" jK)
  (bE:fC K mg "differing_runs" "differing_runs" jm)
  (bF:fC K mg "four_bytes" "four_bytes" jL)
  (bG:fC K mg "patch_between" "patch_between" iu)
  (bH:fC K mg "patch_bytes" "patch_bytes" kM)
  (ax:fC K mg "patched" "patched" m9)
  (bI:fC K mg "turned_back" "turned_back" kJ)
  (bJ:fC K mg "run_fits" "run_fits" oA)
  (bK:fC K mg "read_run" "read_run" oB)
  (bL:fC K mg "read_patch" "read_patch" lP)
  (bM:fC K mg "still_lines" "still_lines" ju)
  (bN:fC K mg "merge_three" "merge_three" kN)
  (bO:fC K mg "read_parent" "read_parent" kL)
  (bP:fC K mg "read_second_parent" "read_second_parent" hW)
  (bQ:fC K mg "read_kept" "read_kept" mB)
  (bR:fC K mg "lines_of_kept" "lines_of_kept" jE)
  (bS:fC K mg "read_version" "read_version" jW)
  (bT:fC K mg "read_history" "read_history" jX)
  (bU:fC K mg "full_answer" "full_answer" kP)
  (bV:fC K mg "number_answer" "number_answer" jD)
  (bW:fC K mg "row_answer" "row_answer" lM)
  (bX:fC K mg "list_answer" "list_answer" kO)
  (bY:fC K mg "fault_answer" "fault_answer" j7)
  (bZ:fC K mg "answer_differ" "answer_differ" jH)
  (b0:fC K mg "answer_merge" "answer_merge" kd)
  (b1:fC K mg "answer_by_patch" "answer_by_patch" iP)
  (b2:fC K mg "answer_by_texts" "answer_by_texts" iO)
  (b3:fC K mg "exceeds" "exceeds" qm)
  (b4:fC K mg "origins_by_patch" "origins_by_patch" gJ)
  (b5:fC K mg "parent_bytes" "parent_bytes" jY)
  (b6:fC K mg "history_bytes" "history_bytes" jF)
  (b7:fC K mg "parent_from_call" "parent_from_call" iy)
  (b8:fC K mg "parent_for_answer" "parent_for_answer" ii)
  (b9:fC K mg "answer_put" "answer_put" lS)
  (ca:fC K mg "answer_parents" "answer_parents" jn)
  (cb:fC K mg "answer_base" "answer_base" kR)
  (cc:fC K mg "answer_whence" "answer_whence" jG)
  (cd:fC K mg "answer_of_versions" "answer_of_versions" hX)
  (ce:fC K mg "answer_by_history" "answer_by_history" im)
  (cg:fC K mg "answers" "answers" qr)
  (ch:∃ C,mg "Reader"=some (.ref C)/\we K C/\fq K C "row" /\ fq K C "at" /\ fS K C "__init__" "Reader.__init__" kT/\fS K C "read_row" "Reader.read_row" iR/\fS K C "read_head" "Reader.read_head" iz/\fS K C "read_four" "Reader.read_four" iA/\fS K C "read_end" "Reader.read_end" iS)
  (ci:∃ C,mg "Merged"=some (.ref C)/\we K C/\fq K C "row" /\ fq K C "clashes" /\ fq K C "first_clash" /\ fS K C "__init__" "Merged.__init__" kU/\fS K C "add_lines" "Merged.add_lines" iC/\fS K C "add_mark" "Merged.add_mark" iT/\fS K C "add_clash" "Merged.add_clash" iD/\fS K C "add_place" "Merged.add_place" iB)
  (cj:∃ C,mg "Version"=some (.ref C)/\we K C/\fq K C "first_parent" /\ fq K C "second_parent" /\ fq K C "lines" /\ fq K C "patch" /\ fq K C "kept" /\ fq K C "origins" /\ fS K C "__init__" "Version.__init__" ke/\fS K C "both_parents" "Version.both_parents" gb)
  (ck:∃ C,mg "History"=some (.ref C)/\we K C/\fq K C "versions" /\ fq K C "kept_size" /\ fS K C "__init__" "History.__init__" kg/\fS K C "is_full" "History.is_full" iU/\fS K C "has_room_for" "History.has_room_for" gL/\fS K C "make_version" "History.make_version" gK/\fS K C "add_version" "History.add_version" gY/\fS K C "ancestors_of" "History.ancestors_of" gM/\fS K C "base_of" "History.base_of" g8/\fS K C "find_origins" "History.find_origins" gf/\fS K C "whence" "History.whence" jp)
  (cm:∃ C,mg "Call"=some (.ref C)/\we K C/\fq K C "name" /\ fq K C "numbers" /\ fq K C "rows" /\ fq K C "has_too_large" /\ fS K C "__init__" "Call.__init__" mD)
  (cn:∃ C,mg "CallReader"=some (.ref C)/\we K C/\fq K C "calls" /\ fq K C "at" /\ fS K C "__init__" "CallReader.__init__" iV/\fS K C "has_more" "CallReader.has_more" gZ/\fS K C "read_numbers" "CallReader.read_numbers" gv/\fS K C "read_number" "CallReader.read_number" gA/\fS K C "read_call" "CallReader.read_call" gN)
  (co:∃ C,mg "Shelf"=some (.ref C)/\we K C/\fq K C "histories" /\ fS K C "__init__" "Shelf.__init__" lU/\fS K C "begin" "Shelf.begin" kS/\fS K C "load" "Shelf.load" lT/\fS K C "answer_on_history" "Shelf.answer_on_history" gu/\fS K C "answer" "Shelf.answer" iQ)
  (cp:∃ C fI fd,mg "Fault"=some (.ref C)/\qU K C fI ["kind","place"]/\Fun K "__init__" "Fault.__init__" lV fI fd)
  (gc:yY P w K mg AM)
  : ∃ fd:GG,(∀ (s:Gp) (us:List Gg),us.length=(["calls"]:List G9).length->BindsTo s fd ⟨us,[]⟩ ((["calls"]:List G9).zip us))/\∀ base:GZ,K.In base->base.Ns mainGlobals mg->ff P w K mg base (CXF P w) 22 fa fd ["calls"] (m8 K):=by
 obtain ⟨CR,cq,ay,cr,cs,cu,cv,cw,cx,cy⟩:=ch;obtain ⟨CM,cz,az,cA,cB,cC,cD,cE,cF,cG,cH⟩:=ci;obtain ⟨CV,cI,aA,cJ,cK,cL,cM,cN,cO,cP,cQ⟩:=cj;obtain ⟨CH,cR,aB,cS,cT,cU,cV,cW,cX,cY,cZ,c0,c1,c2⟩:=ck;obtain ⟨CC,c3,aC,c4,c5,c6,c7,c8⟩:=cm;obtain ⟨CA,c9,aD,da,db,dc,dd,de,df,dg⟩:=cn;obtain ⟨CS,dh,aE,di,dj,dk,dl,dm,dn⟩:=co;obtain ⟨CF,fI,fdI,x0,xc,x1⟩:=cp;have tl:TxL K mg:=⟨av,a1,a2,aa,aV,aW,aX⟩;have tw:TxW K mg:=⟨aa,aY,ap,aq⟩;have tr:TxR K mg CR:=⟨ay.cl,cr,cs,aa,aq,a3,a4,a5,a6⟩;have tp:TxP K mg:=⟨aa,ar,bq⟩;have tm:TxM K mg CM:=⟨az.cl,cA,cB,cC,aa,aZ,av,a7,a8,a9,ba⟩;have th:TxH K mg:=⟨aa,br,aw,ar,bc,bd,be⟩;have tv:TxV K mg CV CH:=⟨aa,au,a0,ap,aw,bb,aA.cl,aB.cl,cJ,cK,cL,cM,cN,cO,cS,cT⟩;have ts:TxS K mg:=⟨aa,bf,bg,bh,bi,bk,bp,au,bj,bl,bm,bn,bo⟩;have tc:TxC K mg CA:=⟨aD.cl,da,db,aa⟩;have tk:TxK K CC:=⟨aC.cl,c4,c5,c6,c7⟩;have tsh:yU K CS:=⟨aE.cl,di⟩;obtain ⟨f,fd,e1,e2,FF⟩:=cg.ex;rw [hfa] at e1;cases e1;obtain ⟨oc,od,kV,doc,pm,an,cdv,ct,osl,efd,lk,hcd⟩:=FF.ex;refine ⟨fd,fun s us hu=>?_,fun base _ _=>?_⟩
 ·subst efd
  match us,hu with
  | [_],_=>exact .of_eq rfl
 have fo:gU P w K mg base CF:=⟨x0,fI,fdI,xc,x1.binds (ps:=["self","kind","place"]) (fun _ _ _ _ _ _ us hl=>match us,hl with | [_,_,_],_=>rfl),Dt x1 xc⟩
 have af:=bs.go (P:=P) (w:=w) (base:=base) fun f fd F=>C8 F tl
 have ac:=bt.go (P:=P) (w:=w) (base:=base) fun f fd F=>Ff F tl
 have ai:=bu.go (P:=P) (w:=w) (base:=base) fun f fd F=>Dm F tl
 have aF:=bv.go (P:=P) (w:=w) (base:=base) fun f fd F=>Fd F tl ai
 have dp:=bw.go (P:=P) (w:=w) (base:=base) fun f fd F=>Du F tl ai
 have dq:=bx.go (P:=P) (w:=w) (base:=base) fun f fd F=>Dl F tl dp
 have dr:=bz.go (P:=P) (w:=w) (base:=base) fun f fd F=>A9 F tl
 have ds:=bA.go (P:=P) (w:=w) (base:=base) fun f fd F=>Di F tw
 have dt:=bB.go (P:=P) (w:=w) (base:=base) fun f fd F=>E6 F tw ds
 have du:=bC.go (P:=P) (w:=w) (base:=base) fun f fd F=>DA F tw
 have aj:=bD.go (P:=P) (w:=w) (base:=base) fun f fd F=>De F tw du dt
 have aG:=bE.go (P:=P) (w:=w) (base:=base) fun f fd F=>E4 F tw aj
 have ak:=bF.go (P:=P) (w:=w) (base:=base) fun f fd F=>Fi F
 have aH:=cu.goC (P:=P) (w:=w) (base:=base) cq ay fun f fd F=>Dc F tr
 have ag:=cv.go (P:=P) (w:=w) (base:=base) fun f fd F=>ok_row F tr fo
 have aI:=cw.go (P:=P) (w:=w) (base:=base) fun f fd F=>Fg F tr fo ag
 have ad:=cx.go (P:=P) (w:=w) (base:=base) fun f fd F=>Dr F tr ag
 have aJ:=cy.go (P:=P) (w:=w) (base:=base) fun f fd F=>ok_end F tr fo
 have aK:=bG.go (P:=P) (w:=w) (base:=base) fun f fd F=>yA F aG
 have al:=bH.go (P:=P) (w:=w) (base:=base) fun f fd F=>A5 F tp ak ac
 have aL:=ax.go (P:=P) (w:=w) (base:=base) fun f fd F=>yt F
 have dv:=bI.go (P:=P) (w:=w) (base:=base) fun f fd F=>Fm F tp
 have dw:=bJ.go (P:=P) (w:=w) (base:=base) fun f fd F=>Fj F tp aF
 have dx:=bK.go (P:=P) (w:=w) (base:=base) fun f fd F=>E5 F tr fo ad ag dw af aF
 have aM:=bL.go (P:=P) (w:=w) (base:=base) fun f fd F=>A4 F tp tr aH aI ad aJ dx
 have dy:=cD.goC (P:=P) (w:=w) (base:=base) cz az fun f fd F=>Dg F tm
 have am:=cE.go (P:=P) (w:=w) (base:=base) fun f fd F=>Be F tm ac
 have dz:=cF.go (P:=P) (w:=w) (base:=base) fun f fd F=>Dz F tm ai
 have dA:=cG.go (P:=P) (w:=w) (base:=base) fun f fd F=>Bg F tm dz am
 have dB:=cH.go (P:=P) (w:=w) (base:=base) fun f fd F=>Bc F tm am dA
 have dC:=bM.go (P:=P) (w:=w) (base:=base) fun f fd F=>C7 F tm aj
 have dD:=bN.go (P:=P) (w:=w) (base:=base) fun f fd F=>Dh F tm dy dC dB am
 have aN:=bO.go (P:=P) (w:=w) (base:=base) fun f fd F=>A6 F th tr fo ad
 have g_parent2:=bP.go (P:=P) (w:=w) (base:=base) fun f fd F=>yu F tr fo aN
 have dE:=cP.goC (P:=P) (w:=w) (base:=base) cI aA fun f fd F=>C6 F tv ac al
 have dF:=cQ.go (P:=P) (w:=w) (base:=base) fun f fd F=>Fk F tv
 have aO:=cU.goC (P:=P) (w:=w) (base:=base) cR aB fun f fd F=>Do F tv
 have dG:=cV.go (P:=P) (w:=w) (base:=base) fun f fd F=>Dq F tv
 have aP:=cW.go (P:=P) (w:=w) (base:=base) fun f fd F=>Db F tv
 have aQ:=cX.go (P:=P) (w:=w) (base:=base) fun f fd F=>Dj F tv dE aK
 have aR:=cY.go (P:=P) (w:=w) (base:=base) fun f fd F=>Bf F tv
 have dH:=bQ.go (P:=P) (w:=w) (base:=base) fun f fd F=>Fe F th tr tv fo ad ag aP
 have dI:=bR.go (P:=P) (w:=w) (base:=base) fun f fd F=>A7 F tv fo af aM aL
 have dJ:=bS.go (P:=P) (w:=w) (base:=base) fun f fd F=>E3 F th tr tv fo aN g_parent2 dH dI dr aQ
 have dK:=bT.go (P:=P) (w:=w) (base:=base) fun f fd F=>E8 F th tr tv fo aH aI ad aJ aO aR dJ
 have ae:=bU.go (P:=P) (w:=w) (base:=base) fun f fd F=>Fh F ts
 have ab:=bV.go (P:=P) (w:=w) (base:=base) fun f fd F=>ok_num F ae
 have ah:=bW.go (P:=P) (w:=w) (base:=base) fun f fd F=>E7 F ts ae
 have ao:=bX.go (P:=P) (w:=w) (base:=base) fun f fd F=>Dk F ae
 have aS:=bY.go (P:=P) (w:=w) (base:=base) fun f fd F=>Bb F ts fo ae
 have dL:=bZ.go (P:=P) (w:=w) (base:=base) fun f fd F=>yD F ts aG ao
 have dM:=b0.go (P:=P) (w:=w) (base:=base) fun f fd F=>Bd F ts tm dD ae
 have dN:=b1.go (P:=P) (w:=w) (base:=base) fun f fd F=>yz F fo aM aS ah ac aL al dv
 have dO:=b2.go (P:=P) (w:=w) (base:=base) fun f fd F=>yy F dL dM ah al aK
 have dP:=dc.goC (P:=P) (w:=w) (base:=base) c9 aD fun f fd F=>Dv F tc
 have dQ:=dd.go (P:=P) (w:=w) (base:=base) fun f fd F=>Fb F tc
 have aT:=de.go (P:=P) (w:=w) (base:=base) fun f fd F=>yw F tc
 have dR:=df.go (P:=P) (w:=w) (base:=base) fun f fd F=>A8 F tc aT
 have dS:=b3.go (P:=P) (w:=w) (base:=base) fun f fd F=>yx F ts dq
 have dT:=c8.goC (P:=P) (w:=w) (base:=base) c3 aC fun f fd F=>Dn F tk
 have dU:=dg.go (P:=P) (w:=w) (base:=base) fun f fd F=>Dd (tbl:=AM) F tc tk gc dR aT dS dT
 have dV:=ax.go (P:=P) (w:=w) (base:=base) fun f fd F=>xj F
 have dW:=b4.go (P:=P) (w:=w) (base:=base) fun f fd F=>Fa F tv dV
 have aU:=cZ.go (P:=P) (w:=w) (base:=base) fun f fd F=>ok_anc F tv dF
 have dX:=c0.go (P:=P) (w:=w) (base:=base) fun f fd F=>Fl F tv aU
 have dY:=c1.go (P:=P) (w:=w) (base:=base) fun f fd F=>Ds F tv dW aj
 have dZ:=c2.go (P:=P) (w:=w) (base:=base) fun f fd F=>A3 F tv aU dY
 have d0:=b5.go (P:=P) (w:=w) (base:=base) fun f fd F=>E9 F th ak
 have d1:=b6.go (P:=P) (w:=w) (base:=base) fun f fd F=>Ba F th tv ak d0
 have d2:=b7.go (P:=P) (w:=w) (base:=base) fun f fd F=>ok_pfc F
 have d3:=b8.go (P:=P) (w:=w) (base:=base) fun f fd F=>ok_pfa F
 have d4:=b9.go (P:=P) (w:=w) (base:=base) fun f fd F=>ok_put F ts tv ab dG aP aQ aR d2 af
 have d5:=ca.go (P:=P) (w:=w) (base:=base) fun f fd F=>Fo F tv ao d3
 have d6:=cb.go (P:=P) (w:=w) (base:=base) fun f fd F=>DB F ts tv ab dX
 have d7:=cc.go (P:=P) (w:=w) (base:=base) fun f fd F=>yB F ts tv ao dZ
 have d8:=cd.go (P:=P) (w:=w) (base:=base) fun f fd F=>ok_ofv F ts tv ab ah ac d5 d6 d7
 have d9:=ce.go (P:=P) (w:=w) (base:=base) fun f fd F=>Dx F tk d4 ah d1 d8
 have ea:=dj.goC (P:=P) (w:=w) (base:=base) dh aE fun f fd F=>C9 F tsh
 have eb:=dk.go (P:=P) (w:=w) (base:=base) fun f fd F=>Dy (CV:=CV) F tsh aO ab
 have ec:=dl.go (P:=P) (w:=w) (base:=base) fun f fd F=>Fc F tsh fo dK aS ab
 have ed:=dm.go (P:=P) (w:=w) (base:=base) fun f fd F=>Df F ts tsh tk ab eb ec d9
 have ee:=dn.go (P:=P) (w:=w) (base:=base) fun f fd F=>Da F ts tsh tk ab dO dN af ed
 exact yC FF tc tsh dP ea dQ dU ee
end Lp
namespace L2
open PySem PySem.W PyProof.Rows
theorem xV {r:OpenSpec} {k:Nat} {q:Hk} {loose:List G9} {XP:(G9->Option Gg)->GZ->Prop} {YP:Hy->GZ->Prop} {d:DefRec} {K:Ma->Gh} {CX:Hy->CXT} {ps:List G9} {sp:Gh->Sp} (h1:r.wellSaid=true) (h2:d.params.defaults=[]) (h3:r.args.length=ps.length) (h4:fi k callerA) (h5:∀ (w:Hy) (h:GZ),YP w h->(K w.params).In h)
  (F:∀ (w:Hy) (mg:G9->Option Gg) (fa:Gf) (h:GZ),YP w h->(K w.params).In h->h.Ns mainGlobals mg->mg d.name=some (.ref fa)->∃ fd:GG,(∀ (s:Gp) (us:List Gg),us.length=ps.length->BindsTo s fd ⟨us,[]⟩ (ps.zip us))/\∀ base:GZ,(K w.params).In base->base.Ns mainGlobals mg->ff r.prog w (K w.params) mg base (CX w) k fa fd ps (sp (K w.params)))
  (S:∀ (K:Gh) (H:Hp) (xs:List V) (a:Le r.args),Kn.withinAll r.args a=true->L6 r.args r.asked a=true->lH K H xs (KF r.args a)->sp K xs H (fun v H'=>Dw K H' v (r.ret.enc (L6 r.args r.f a))) fun _ _ _=>False)
  (C:∀ (w:Hy) (H:Hp) (s:Gp) (e:Gg) (s':Gp),CX w [] H s (fun _ _ _=>False) e s'->False):PySem.W.WalkOS q loose XP YP r d [] (fun f vs=>PySem.call f vs) :=
 AF (K:=K) (CX:=CX) (sp:=fun w=>sp (K w.params)) h1 h2 h3 h4 h5 F (fun w H xs a _ b c e=>S (K w.params) H xs a b c e) C
end L2
namespace Lp
open PySem PySem.Spec PyProof.Rows L2
theorem Ex (K:Gh) (H:Hp) (xs:List V) (a:KQ.denoteAll He.args) (_:KQ.withinAll He.args a=true) (ask:KQ.app He.args He.asked a=true)
  (hx:lH K H xs (KQ.encAll He.args a)):m8 K xs H (fun v H'=>Dw K H' v (He.ret.enc (KQ.app He.args He.f a))) fun _ _ _=>False:=by
 cases hx with
 | cons h1 h2 =>
  cases h2;cases h1 with
  | lst hs ha =>
   have e:=L2.An a.1 _ ha;subst e;exact ⟨_,a.1,rfl,hs,ask,fun H' p _ _ hp => .lst (L2.SqL.of hp) (L2.Aw _)⟩
def oP (K:Gh) (a:Gf) (nm:G9) (c:Nat) (ks:List G9):Prop:=∃ b,(∀ H,SqT K H a [.str nm,.int (c:Nat),.ref b])/\∀ H,SqT K H b (ks.map V.str)
theorem h9 {K:Gh} {a b:Gf} {nm:G9} {c:Nat} {ks:List G9} {oc oc':Gg} {od od':Option Gf} {its its':Array Gg} {n n':Nat} {sl sl':Array (Option Gg)} (la:K.lookup a=some ⟨oc,od,.seq its n,sl⟩) (ca:oc = .type "tuple") (za:its.size<=sizeLine) (va:fu [.str nm,.int (c:Nat),.ref b] its.toList)
  (lb:K.lookup b=some ⟨oc',od',.seq its' n',sl'⟩) (cb:oc' = .type "tuple") (zb:its'.size<=sizeLine) (vb:fu (ks.map V.str) its'.toList):oP K a nm c ks :=
 ⟨b,fun H => .inr ⟨_,its,n,la,ca,rfl,za,va⟩,fun H => .inr ⟨_,its',n',lb,cb,rfl,zb,vb⟩⟩
theorem D9 {P:Hk} {w:Hy} {K:Gh} {h:GZ} {mg:G9->Option Gg} {A:Gf} {es:Array IZ} {n:Nat} {t0 t1 t2 t3 t4 t5 t6 t7 t8 t9 t10 t11 t12:Tok} {a0 a1 a2 a3 a4 a5 a6 a7 a8 a9 a10 a11 a12:Gf} (X:K.In h) (G:h.Ns mainGlobals mg) (aD:HV K mainGlobals "CALLS"=some (some (.ref A))) (lD:K.lookup A=some { cls := .type "dict",data := .dict es n })
  (eD:es.toList=[⟨hashInt 0,.int 0 t0,.ref a0⟩,⟨hashInt 1,.int 1 t1,.ref a1⟩,⟨hashInt 2,.int 2 t2,.ref a2⟩,⟨hashInt 3,.int 3 t3,.ref a3⟩,⟨hashInt 4,.int 4 t4,.ref a4⟩,⟨hashInt 5,.int 5 t5,.ref a5⟩,⟨hashInt 6,.int 6 t6,.ref a6⟩,⟨hashInt 7,.int 7 t7,.ref a7⟩,⟨hashInt 8,.int 8 t8,.ref a8⟩,⟨hashInt 9,.int 9 t9,.ref a9⟩,⟨hashInt 10,.int 10 t10,.ref a10⟩,⟨hashInt 11,.int 11 t11,.ref a11⟩,⟨hashInt 12,.int 12 t12,.ref a12⟩])
  (u0:oP K a0 "differ" 0 ["text","text"]) (u1:oP K a1 "patch" 0 ["text","text"]) (u2:oP K a2 "apply" 0 ["text","patch"]) (u3:oP K a3 "back" 0 ["text","patch"]) (u4:oP K a4 "merge" 0 ["text","text","text"]) (u5:oP K a5 "begin" 1 []) (u6:oP K a6 "load" 1 ["history"]) (u7:oP K a7 "put" 3 ["text"]) (u8:oP K a8 "text" 2 []) (u9:oP K a9 "parents" 2 []) (u10:oP K a10 "base" 3 []) (u11:oP K a11 "whence" 2 []) (u12:oP K a12 "save" 1 []) :
  yY P w K mg AM:=by
 refine ⟨[(Hm 0,.ref a0),(Hm 1,.ref a1),(Hm 2,.ref a2),(Hm 3,.ref a3),(Hm 4,.ref a4),(Hm 5,.ref a5),(Hm 6,.ref a6),(Hm 7,.ref a7),(Hm 8,.ref a8),(Hm 9,.ref a9),(Hm 10,.ref a10),(Hm 11,.ref a11),(Hm 12,.ref a12)],?_,?_⟩
 ·refine gd_mk (rs:=[(0,t0,.ref a0),(1,t1,.ref a1),(2,t2,.ref a2),(3,t3,.ref a3),(4,t4,.ref a4),(5,t5,.ref a5),(6,t6,.ref a6),(7,t7,.ref a7),(8,t8,.ref a8),(9,t9,.ref a9),(10,t10,.ref a10),(11,t11,.ref a11),(12,t12,.ref a12)]) X G aD lD eD (by show [(0:Int),1,2,3,4,5,6,7,8,9,10,11,12].Nodup;decide) ?_
  exact .cons ⟨rfl,rfl⟩ (.cons ⟨rfl,rfl⟩ (.cons ⟨rfl,rfl⟩ (.cons ⟨rfl,rfl⟩ (.cons ⟨rfl,rfl⟩ (.cons ⟨rfl,rfl⟩ (.cons ⟨rfl,rfl⟩ (.cons ⟨rfl,rfl⟩ (.cons ⟨rfl,rfl⟩ (.cons ⟨rfl,rfl⟩ (.cons ⟨rfl,rfl⟩ (.cons ⟨rfl,rfl⟩ (.cons ⟨rfl,rfl⟩ .nil))))))))))))
 ·intro p nm c ks e
  have fin:∀ (i:Int) (a:Gf) (nm':G9) (c':Nat) (ks':List G9),oP K a nm' c' ks'->valV [((Hm 0:L2.Key),V.ref a0),(Hm 1,.ref a1),(Hm 2,.ref a2),(Hm 3,.ref a3),(Hm 4,.ref a4),(Hm 5,.ref a5),(Hm 6,.ref a6),(Hm 7,.ref a7),(Hm 8,.ref a8),(Hm 9,.ref a9),(Hm 10,.ref a10),(Hm 11,.ref a11),(Hm 12,.ref a12)] (Hm i)=some (.ref a)->some (nm',c',ks')=some (nm,c,ks)->∃ a b,valV [((Hm 0:L2.Key),V.ref a0),(Hm 1,.ref a1),(Hm 2,.ref a2),(Hm 3,.ref a3),(Hm 4,.ref a4),(Hm 5,.ref a5),(Hm 6,.ref a6),(Hm 7,.ref a7),(Hm 8,.ref a8),(Hm 9,.ref a9),(Hm 10,.ref a10),(Hm 11,.ref a11),(Hm 12,.ref a12)] (Hm i)=some (.ref a)/\(∀ H,SqT K H a [.str nm,.int (c:Nat),.ref b])/\∀ H,SqT K H b (ks.map V.str):=fun i a nm' c' ks' ⟨b,t1,t2⟩ v z=>by
   cases z;exact ⟨a,b,v,t1,t2⟩
  unfold AM at e;by_cases h:p=0
  ·subst h;exact fin 0 a0 _ _ _ u0 rfl e
  rw [F9 h] at e;clear h;by_cases h:p=1
  ·subst h;exact fin 1 a1 _ _ _ u1 rfl e
  rw [F9 h] at e;clear h;by_cases h:p=2
  ·subst h;exact fin 2 a2 _ _ _ u2 rfl e
  rw [F9 h] at e;clear h;by_cases h:p=3
  ·subst h;exact fin 3 a3 _ _ _ u3 rfl e
  rw [F9 h] at e;clear h;by_cases h:p=4
  ·subst h;exact fin 4 a4 _ _ _ u4 rfl e
  rw [F9 h] at e;clear h;by_cases h:p=5
  ·subst h;exact fin 5 a5 _ _ _ u5 rfl e
  rw [F9 h] at e;clear h;by_cases h:p=6
  ·subst h;exact fin 6 a6 _ _ _ u6 rfl e
  rw [F9 h] at e;clear h;by_cases h:p=7
  ·subst h;exact fin 7 a7 _ _ _ u7 rfl e
  rw [F9 h] at e;clear h;by_cases h:p=8
  ·subst h;exact fin 8 a8 _ _ _ u8 rfl e
  rw [F9 h] at e;clear h;by_cases h:p=9
  ·subst h;exact fin 9 a9 _ _ _ u9 rfl e
  rw [F9 h] at e;clear h;by_cases h:p=10
  ·subst h;exact fin 10 a10 _ _ _ u10 rfl e
  rw [F9 h] at e;clear h;by_cases h:p=11
  ·subst h;exact fin 11 a11 _ _ _ u11 rfl e
  rw [F9 h] at e;clear h;by_cases h:p=12
  ·subst h;exact fin 12 a12 _ _ _ u12 rfl e
  rw [F9 h] at e;cases e
end Lp
open PySem PySem.W PyProof.Rows
set_option maxRecDepth 100000 in
set_option maxHeartbeats 0 in
theorem PySem.Challenge.cw_linesback_s01_answers_holds : PySem.Challenge.rw_linesback_s01_answers.Holds := by
 w_on;k_headS;(case hw=>exact ⟨[.list []],by decide +kernel,by decide +kernel⟩)
 k_fillS
 refine L2.xV (r:=He) (k:=22) (CX:=fun w=>L2.CXF He.prog w) (ps:=["calls"]) (sp:=Lp.m8) (by decide +kernel) rfl rfl ⟨fun _=>rfl,by decide,by decide⟩ (fun w h Y=>PySem.W.kIn_of Y) ?F Lp.Ex ?C
 case F =>
  intro w mg fa h Y KX G hmg
  refine' Lp.top_mk KX G hmg ?p0 ?p1 ?p2 ?p3 ?p4 ?p5 ?p6 ?p7 ?p8 ?p9 ?p10 ?p11 ?p12 ?p13 ?p14 ?p15 ?p16 ?p17 ?p18 ?p19 ?p20 ?p21 ?p22 ?p23 ?p24 ?p25 ?p26 ?p27 ?p28 ?p29 ?p30 ?p31 ?p32 ?p33 ?p34 ?p35 ?p36 ?p37 ?p38 ?p39 ?p40 ?p41 ?p42 ?p43 ?p44 ?p45 ?p46 ?p47 ?p48 ?p49 ?p50 ?p51 ?p52 ?p53 ?p54 ?p55 ?p56 ?p57 ?p58 ?p59 ?p60 ?p61 ?p62 ?p63 ?p64 ?p65 ?p66 ?p67 ?p68 ?p69 ?p70 ?p71 ?p72 ?p73 ?p74 ?p75 ?p76 ?p77 ?p78 ?p79 ?p80 ?p81 ?p82 ?p83 ?p84 ?p85 ?p86 ?p87 ?p88 ?p89 ?p90 ?p91 ?p92 ?p93 ?p94 ?p95 ?p96 ?p97 ?p98
  (case p0=>(refine' JF KX G ?a0);(case a0=>k_is))
  (case p1=>(refine' JF KX G ?a1);(case a1=>k_is))
  (case p2=>(refine' JF KX G ?a2);(case a2=>k_is))
  (case p3=>(refine' JF KX G ?a3);(case a3=>k_is))
  (case p4=>(refine' JF KX G ?a4);(case a4=>k_is))
  (case p5=>(refine' JF KX G ?a5);(case a5=>k_is))
  (case p6=>(refine' JF KX G ?a6);(case a6=>k_is))
  (case p7=>(refine' JF KX G ?a7);(case a7=>k_is))
  (case p8=>(refine' JF KX G ?a8);(case a8=>k_is))
  (case p9=>(refine' JF KX G ?a9);(case a9=>k_is))
  (case p10=>(refine' JF KX G ?a10);(case a10=>k_is))
  (case p11=>(refine' L2.gH KX G ?a11);(case a11=>k_is))
  (case p12=>(refine' L2.gH KX G ?a12);(case a12=>k_is))
  (case p13=>(refine' L2.gH KX G ?a13);(case a13=>k_is))
  (case p14=>(refine' L2.gH KX G ?a14);(case a14=>k_is))
  (case p15=>(refine' L2.gH KX G ?a15);(case a15=>k_is))
  (case p16=>(refine' L2.gH KX G ?a16);(case a16=>k_is))
  (case p17=>(refine' L2.gH KX G ?a17);(case a17=>k_is))
  (case p18=>(refine' L2.gH KX G ?a18);(case a18=>k_is))
  (case p19=>(refine' L2.gH KX G ?a19);(case a19=>k_is))
  (case p20=>(refine' L2.gH KX G ?a20);(case a20=>k_is))
  (case p21=>(refine' L2.gH KX G ?a21);(case a21=>k_is))
  (case p22=>(refine' L2.gH KX G ?a22);(case a22=>k_is))
  (case p23=>(refine' L2.gH KX G ?a23);(case a23=>k_is))
  (case p24=>(refine' L2.gH KX G ?a24);(case a24=>k_is))
  (case p25=>(refine' L2.gH KX G ?a25);(case a25=>k_is))
  (case p26=>(refine' L2.gH KX G ?a26);(case a26=>k_is))
  (case p27=>(refine' L2.gH KX G ?a27);(case a27=>k_is))
  (case p28=>(refine' L2.gH KX G ?a28);(case a28=>k_is))
  (case p29=>(refine' L2.gH KX G ?a29);(case a29=>k_is))
  (case p30=>(refine' L2.gH KX G ?a30);(case a30=>k_is))
  (case p31=>(refine' L2.gH KX G ?a31);(case a31=>k_is))
  (case p32=>(refine' L2.gH KX G ?a32);(case a32=>k_is))
  (case p33=>(refine' L2.gH KX G ?a33);(case a33=>k_is))
  (case p34=>(refine' L2.gH KX G ?a34);(case a34=>k_is))
  (case p35=>(refine' L2.gH KX G ?a35);(case a35=>k_is))
  (case p36=>(refine' L2.gH KX G ?a36);(case a36=>k_is))
  (case p37=>(refine' L2.gH KX G ?a37);(case a37=>k_is))
  (case p38=>(refine' L2.F3 KX G ?a38 ?b38 ?c38 ?d38 ?e38);(case a38=>k_is);(case b38=>k_is);(case c38=>rfl);(case d38=>decide);(case e38=>exact .cons ⟨_,rfl⟩ (.cons ⟨_,rfl⟩ (.cons ⟨_,rfl⟩ (.cons ⟨_,rfl⟩ .nil)))))
  (case p39=>(refine' L2.F3 KX G ?a39 ?b39 ?c39 ?d39 ?e39);(case a39=>k_is);(case b39=>k_is);(case c39=>rfl);(case d39=>decide);(case e39=>exact .cons ⟨_,rfl⟩ (.cons ⟨_,rfl⟩ (.cons ⟨_,rfl⟩ (.cons ⟨_,rfl⟩ .nil)))))
  (case p40=>(refine' L2.fk KX G ?a40 ?b40 ?c40 ?d40);(case a40=>k_is);(case b40=>k_is);(case c40=>k_is);(case d40=>k_is))
  (case p41=>(refine' L2.fk KX G ?a41 ?b41 ?c41 ?d41);(case a41=>k_is);(case b41=>k_is);(case c41=>k_is);(case d41=>k_is))
  (case p42=>(refine' L2.fk KX G ?a42 ?b42 ?c42 ?d42);(case a42=>k_is);(case b42=>k_is);(case c42=>k_is);(case d42=>k_is))
  (case p43=>(refine' L2.fk KX G ?a43 ?b43 ?c43 ?d43);(case a43=>k_is);(case b43=>k_is);(case c43=>k_is);(case d43=>k_is))
  (case p44=>(refine' L2.fk KX G ?a44 ?b44 ?c44 ?d44);(case a44=>k_is);(case b44=>k_is);(case c44=>k_is);(case d44=>k_is))
  (case p45=>(refine' L2.fk KX G ?a45 ?b45 ?c45 ?d45);(case a45=>k_is);(case b45=>k_is);(case c45=>k_is);(case d45=>k_is))
  (case p46=>(refine' L2.fk KX G ?a46 ?b46 ?c46 ?d46);(case a46=>k_is);(case b46=>k_is);(case c46=>k_is);(case d46=>k_is))
  (case p47=>(refine' L2.fk KX G ?a47 ?b47 ?c47 ?d47);(case a47=>k_is);(case b47=>k_is);(case c47=>k_is);(case d47=>k_is))
  (case p48=>(refine' L2.fk KX G ?a48 ?b48 ?c48 ?d48);(case a48=>k_is);(case b48=>k_is);(case c48=>k_is);(case d48=>k_is))
  (case p49=>(refine' L2.fk KX G ?a49 ?b49 ?c49 ?d49);(case a49=>k_is);(case b49=>k_is);(case c49=>k_is);(case d49=>k_is))
  (case p50=>(refine' L2.fk KX G ?a50 ?b50 ?c50 ?d50);(case a50=>k_is);(case b50=>k_is);(case c50=>k_is);(case d50=>k_is))
  (case p51=>(refine' L2.fk KX G ?a51 ?b51 ?c51 ?d51);(case a51=>k_is);(case b51=>k_is);(case c51=>k_is);(case d51=>k_is))
  (case p52=>(refine' L2.fk KX G ?a52 ?b52 ?c52 ?d52);(case a52=>k_is);(case b52=>k_is);(case c52=>k_is);(case d52=>k_is))
  (case p53=>(refine' L2.fk KX G ?a53 ?b53 ?c53 ?d53);(case a53=>k_is);(case b53=>k_is);(case c53=>k_is);(case d53=>k_is))
  (case p54=>(refine' L2.fk KX G ?a54 ?b54 ?c54 ?d54);(case a54=>k_is);(case b54=>k_is);(case c54=>k_is);(case d54=>k_is))
  (case p55=>(refine' L2.fk KX G ?a55 ?b55 ?c55 ?d55);(case a55=>k_is);(case b55=>k_is);(case c55=>k_is);(case d55=>k_is))
  (case p56=>(refine' L2.fk KX G ?a56 ?b56 ?c56 ?d56);(case a56=>k_is);(case b56=>k_is);(case c56=>k_is);(case d56=>k_is))
  (case p57=>(refine' L2.fk KX G ?a57 ?b57 ?c57 ?d57);(case a57=>k_is);(case b57=>k_is);(case c57=>k_is);(case d57=>k_is))
  (case p58=>(refine' L2.fk KX G ?a58 ?b58 ?c58 ?d58);(case a58=>k_is);(case b58=>k_is);(case c58=>k_is);(case d58=>k_is))
  (case p59=>(refine' L2.fk KX G ?a59 ?b59 ?c59 ?d59);(case a59=>k_is);(case b59=>k_is);(case c59=>k_is);(case d59=>k_is))
  (case p60=>(refine' L2.fk KX G ?a60 ?b60 ?c60 ?d60);(case a60=>k_is);(case b60=>k_is);(case c60=>k_is);(case d60=>k_is))
  (case p61=>(refine' L2.fk KX G ?a61 ?b61 ?c61 ?d61);(case a61=>k_is);(case b61=>k_is);(case c61=>k_is);(case d61=>k_is))
  (case p62=>(refine' L2.fk KX G ?a62 ?b62 ?c62 ?d62);(case a62=>k_is);(case b62=>k_is);(case c62=>k_is);(case d62=>k_is))
  (case p63=>(refine' L2.fk KX G ?a63 ?b63 ?c63 ?d63);(case a63=>k_is);(case b63=>k_is);(case c63=>k_is);(case d63=>k_is))
  (case p64=>(refine' L2.fk KX G ?a64 ?b64 ?c64 ?d64);(case a64=>k_is);(case b64=>k_is);(case c64=>k_is);(case d64=>k_is))
  (case p65=>(refine' L2.fk KX G ?a65 ?b65 ?c65 ?d65);(case a65=>k_is);(case b65=>k_is);(case c65=>k_is);(case d65=>k_is))
  (case p66=>(refine' L2.fk KX G ?a66 ?b66 ?c66 ?d66);(case a66=>k_is);(case b66=>k_is);(case c66=>k_is);(case d66=>k_is))
  (case p67=>(refine' L2.fk KX G ?a67 ?b67 ?c67 ?d67);(case a67=>k_is);(case b67=>k_is);(case c67=>k_is);(case d67=>k_is))
  (case p68=>(refine' L2.fk KX G ?a68 ?b68 ?c68 ?d68);(case a68=>k_is);(case b68=>k_is);(case c68=>k_is);(case d68=>k_is))
  (case p69=>(refine' L2.fk KX G ?a69 ?b69 ?c69 ?d69);(case a69=>k_is);(case b69=>k_is);(case c69=>k_is);(case d69=>k_is))
  (case p70=>(refine' L2.fk KX G ?a70 ?b70 ?c70 ?d70);(case a70=>k_is);(case b70=>k_is);(case c70=>k_is);(case d70=>k_is))
  (case p71=>(refine' L2.fk KX G ?a71 ?b71 ?c71 ?d71);(case a71=>k_is);(case b71=>k_is);(case c71=>k_is);(case d71=>k_is))
  (case p72=>(refine' L2.fk KX G ?a72 ?b72 ?c72 ?d72);(case a72=>k_is);(case b72=>k_is);(case c72=>k_is);(case d72=>k_is))
  (case p73=>(refine' L2.fk KX G ?a73 ?b73 ?c73 ?d73);(case a73=>k_is);(case b73=>k_is);(case c73=>k_is);(case d73=>k_is))
  (case p74=>(refine' L2.fk KX G ?a74 ?b74 ?c74 ?d74);(case a74=>k_is);(case b74=>k_is);(case c74=>k_is);(case d74=>k_is))
  (case p75=>(refine' L2.fk KX G ?a75 ?b75 ?c75 ?d75);(case a75=>k_is);(case b75=>k_is);(case c75=>k_is);(case d75=>k_is))
  (case p76=>(refine' L2.fk KX G ?a76 ?b76 ?c76 ?d76);(case a76=>k_is);(case b76=>k_is);(case c76=>k_is);(case d76=>k_is))
  (case p77=>(refine' L2.fk KX G ?a77 ?b77 ?c77 ?d77);(case a77=>k_is);(case b77=>k_is);(case c77=>k_is);(case d77=>k_is))
  (case p78=>(refine' L2.fk KX G ?a78 ?b78 ?c78 ?d78);(case a78=>k_is);(case b78=>k_is);(case c78=>k_is);(case d78=>k_is))
  (case p79=>(refine' L2.fk KX G ?a79 ?b79 ?c79 ?d79);(case a79=>k_is);(case b79=>k_is);(case c79=>k_is);(case d79=>k_is))
  (case p80=>(refine' L2.fk KX G ?a80 ?b80 ?c80 ?d80);(case a80=>k_is);(case b80=>k_is);(case c80=>k_is);(case d80=>k_is))
  (case p81=>(refine' L2.fk KX G ?a81 ?b81 ?c81 ?d81);(case a81=>k_is);(case b81=>k_is);(case c81=>k_is);(case d81=>k_is))
  (case p82=>(refine' L2.fk KX G ?a82 ?b82 ?c82 ?d82);(case a82=>k_is);(case b82=>k_is);(case c82=>k_is);(case d82=>k_is))
  (case p83=>(refine' L2.fk KX G ?a83 ?b83 ?c83 ?d83);(case a83=>k_is);(case b83=>k_is);(case c83=>k_is);(case d83=>k_is))
  (case p84=>(refine' L2.fk KX G ?a84 ?b84 ?c84 ?d84);(case a84=>k_is);(case b84=>k_is);(case c84=>k_is);(case d84=>k_is))
  (case p85=>(refine' L2.fk KX G ?a85 ?b85 ?c85 ?d85);(case a85=>k_is);(case b85=>k_is);(case c85=>k_is);(case d85=>k_is))
  (case p86=>(refine' L2.fk KX G ?a86 ?b86 ?c86 ?d86);(case a86=>k_is);(case b86=>k_is);(case c86=>k_is);(case d86=>k_is))
  (case p87=>(refine' L2.fk KX G ?a87 ?b87 ?c87 ?d87);(case a87=>k_is);(case b87=>k_is);(case c87=>k_is);(case d87=>k_is))
  (case p88=>(refine' L2.fk KX G ?a88 ?b88 ?c88 ?d88);(case a88=>k_is);(case b88=>k_is);(case c88=>k_is);(case d88=>k_is))
  (case p89=>(refine' L2.fk KX G ?a89 ?b89 ?c89 ?d89);(case a89=>k_is);(case b89=>k_is);(case c89=>k_is);(case d89=>k_is))
  (case p90=>(refine' L2.oO KX G ?a90 ?b90 ?c90 ?d90 ?e90 ?f90 ?g90 ?h90);(case a90=>k_is);(case b90=>k_is);(case c90=>k_is);(case d90=>k_is);(case e90=>k_is);(case f90=>k_is);(case g90=>k_is);(case h90=>(refine' ⟨?z90_0,?z90_1,?z90_2,?z90_3,?z90_4,?z90_5,?z90_6⟩);(case z90_0=>(show findIn _ _ _=some none);k_is);(case z90_1=>(show findIn _ _ _=some none);k_is);(case z90_2=>(refine' L2.fN ?az90_2 ?bz90_2 ?cz90_2 ?dz90_2 ?ez90_2);(case az90_2=>k_is);(case bz90_2=>k_is);(case cz90_2=>k_is);(case dz90_2=>k_is);(case ez90_2=>k_is));(case z90_3=>(refine' L2.fN ?az90_3 ?bz90_3 ?cz90_3 ?dz90_3 ?ez90_3);(case az90_3=>k_is);(case bz90_3=>k_is);(case cz90_3=>k_is);(case dz90_3=>k_is);(case ez90_3=>k_is));(case z90_4=>(refine' L2.fN ?az90_4 ?bz90_4 ?cz90_4 ?dz90_4 ?ez90_4);(case az90_4=>k_is);(case bz90_4=>k_is);(case cz90_4=>k_is);(case dz90_4=>k_is);(case ez90_4=>k_is));(case z90_5=>(refine' L2.fN ?az90_5 ?bz90_5 ?cz90_5 ?dz90_5 ?ez90_5);(case az90_5=>k_is);(case bz90_5=>k_is);(case cz90_5=>k_is);(case dz90_5=>k_is);(case ez90_5=>k_is));(case z90_6=>(refine' L2.fN ?az90_6 ?bz90_6 ?cz90_6 ?dz90_6 ?ez90_6);(case az90_6=>k_is);(case bz90_6=>k_is);(case cz90_6=>k_is);(case dz90_6=>k_is);(case ez90_6=>k_is))))
  (case p91=>(refine' L2.oO KX G ?a91 ?b91 ?c91 ?d91 ?e91 ?f91 ?g91 ?h91);(case a91=>k_is);(case b91=>k_is);(case c91=>k_is);(case d91=>k_is);(case e91=>k_is);(case f91=>k_is);(case g91=>k_is);(case h91=>(refine' ⟨?z91_0,?z91_1,?z91_2,?z91_3,?z91_4,?z91_5,?z91_6,?z91_7⟩);(case z91_0=>(show findIn _ _ _=some none);k_is);(case z91_1=>(show findIn _ _ _=some none);k_is);(case z91_2=>(show findIn _ _ _=some none);k_is);(case z91_3=>(refine' L2.fN ?az91_3 ?bz91_3 ?cz91_3 ?dz91_3 ?ez91_3);(case az91_3=>k_is);(case bz91_3=>k_is);(case cz91_3=>k_is);(case dz91_3=>k_is);(case ez91_3=>k_is));(case z91_4=>(refine' L2.fN ?az91_4 ?bz91_4 ?cz91_4 ?dz91_4 ?ez91_4);(case az91_4=>k_is);(case bz91_4=>k_is);(case cz91_4=>k_is);(case dz91_4=>k_is);(case ez91_4=>k_is));(case z91_5=>(refine' L2.fN ?az91_5 ?bz91_5 ?cz91_5 ?dz91_5 ?ez91_5);(case az91_5=>k_is);(case bz91_5=>k_is);(case cz91_5=>k_is);(case dz91_5=>k_is);(case ez91_5=>k_is));(case z91_6=>(refine' L2.fN ?az91_6 ?bz91_6 ?cz91_6 ?dz91_6 ?ez91_6);(case az91_6=>k_is);(case bz91_6=>k_is);(case cz91_6=>k_is);(case dz91_6=>k_is);(case ez91_6=>k_is));(case z91_7=>(refine' L2.fN ?az91_7 ?bz91_7 ?cz91_7 ?dz91_7 ?ez91_7);(case az91_7=>k_is);(case bz91_7=>k_is);(case cz91_7=>k_is);(case dz91_7=>k_is);(case ez91_7=>k_is))))
  (case p92=>(refine' L2.oO KX G ?a92 ?b92 ?c92 ?d92 ?e92 ?f92 ?g92 ?h92);(case a92=>k_is);(case b92=>k_is);(case c92=>k_is);(case d92=>k_is);(case e92=>k_is);(case f92=>k_is);(case g92=>k_is);(case h92=>(refine' ⟨?z92_0,?z92_1,?z92_2,?z92_3,?z92_4,?z92_5,?z92_6,?z92_7⟩);(case z92_0=>(show findIn _ _ _=some none);k_is);(case z92_1=>(show findIn _ _ _=some none);k_is);(case z92_2=>(show findIn _ _ _=some none);k_is);(case z92_3=>(show findIn _ _ _=some none);k_is);(case z92_4=>(show findIn _ _ _=some none);k_is);(case z92_5=>(show findIn _ _ _=some none);k_is);(case z92_6=>(refine' L2.fN ?az92_6 ?bz92_6 ?cz92_6 ?dz92_6 ?ez92_6);(case az92_6=>k_is);(case bz92_6=>k_is);(case cz92_6=>k_is);(case dz92_6=>k_is);(case ez92_6=>k_is));(case z92_7=>(refine' L2.fN ?az92_7 ?bz92_7 ?cz92_7 ?dz92_7 ?ez92_7);(case az92_7=>k_is);(case bz92_7=>k_is);(case cz92_7=>k_is);(case dz92_7=>k_is);(case ez92_7=>k_is))))
  (case p93=>(refine' L2.oO KX G ?a93 ?b93 ?c93 ?d93 ?e93 ?f93 ?g93 ?h93);(case a93=>k_is);(case b93=>k_is);(case c93=>k_is);(case d93=>k_is);(case e93=>k_is);(case f93=>k_is);(case g93=>k_is);(case h93=>(refine' ⟨?z93_0,?z93_1,?z93_2,?z93_3,?z93_4,?z93_5,?z93_6,?z93_7,?z93_8,?z93_9,?z93_10⟩);(case z93_0=>(show findIn _ _ _=some none);k_is);(case z93_1=>(show findIn _ _ _=some none);k_is);(case z93_2=>(refine' L2.fN ?az93_2 ?bz93_2 ?cz93_2 ?dz93_2 ?ez93_2);(case az93_2=>k_is);(case bz93_2=>k_is);(case cz93_2=>k_is);(case dz93_2=>k_is);(case ez93_2=>k_is));(case z93_3=>(refine' L2.fN ?az93_3 ?bz93_3 ?cz93_3 ?dz93_3 ?ez93_3);(case az93_3=>k_is);(case bz93_3=>k_is);(case cz93_3=>k_is);(case dz93_3=>k_is);(case ez93_3=>k_is));(case z93_4=>(refine' L2.fN ?az93_4 ?bz93_4 ?cz93_4 ?dz93_4 ?ez93_4);(case az93_4=>k_is);(case bz93_4=>k_is);(case cz93_4=>k_is);(case dz93_4=>k_is);(case ez93_4=>k_is));(case z93_5=>(refine' L2.fN ?az93_5 ?bz93_5 ?cz93_5 ?dz93_5 ?ez93_5);(case az93_5=>k_is);(case bz93_5=>k_is);(case cz93_5=>k_is);(case dz93_5=>k_is);(case ez93_5=>k_is));(case z93_6=>(refine' L2.fN ?az93_6 ?bz93_6 ?cz93_6 ?dz93_6 ?ez93_6);(case az93_6=>k_is);(case bz93_6=>k_is);(case cz93_6=>k_is);(case dz93_6=>k_is);(case ez93_6=>k_is));(case z93_7=>(refine' L2.fN ?az93_7 ?bz93_7 ?cz93_7 ?dz93_7 ?ez93_7);(case az93_7=>k_is);(case bz93_7=>k_is);(case cz93_7=>k_is);(case dz93_7=>k_is);(case ez93_7=>k_is));(case z93_8=>(refine' L2.fN ?az93_8 ?bz93_8 ?cz93_8 ?dz93_8 ?ez93_8);(case az93_8=>k_is);(case bz93_8=>k_is);(case cz93_8=>k_is);(case dz93_8=>k_is);(case ez93_8=>k_is));(case z93_9=>(refine' L2.fN ?az93_9 ?bz93_9 ?cz93_9 ?dz93_9 ?ez93_9);(case az93_9=>k_is);(case bz93_9=>k_is);(case cz93_9=>k_is);(case dz93_9=>k_is);(case ez93_9=>k_is));(case z93_10=>(refine' L2.fN ?az93_10 ?bz93_10 ?cz93_10 ?dz93_10 ?ez93_10);(case az93_10=>k_is);(case bz93_10=>k_is);(case cz93_10=>k_is);(case dz93_10=>k_is);(case ez93_10=>k_is))))
  (case p94=>(refine' L2.oO KX G ?a94 ?b94 ?c94 ?d94 ?e94 ?f94 ?g94 ?h94);(case a94=>k_is);(case b94=>k_is);(case c94=>k_is);(case d94=>k_is);(case e94=>k_is);(case f94=>k_is);(case g94=>k_is);(case h94=>(refine' ⟨?z94_0,?z94_1,?z94_2,?z94_3,?z94_4⟩);(case z94_0=>(show findIn _ _ _=some none);k_is);(case z94_1=>(show findIn _ _ _=some none);k_is);(case z94_2=>(show findIn _ _ _=some none);k_is);(case z94_3=>(show findIn _ _ _=some none);k_is);(case z94_4=>(refine' L2.fN ?az94_4 ?bz94_4 ?cz94_4 ?dz94_4 ?ez94_4);(case az94_4=>k_is);(case bz94_4=>k_is);(case cz94_4=>k_is);(case dz94_4=>k_is);(case ez94_4=>k_is))))
  (case p95=>(refine' L2.oO KX G ?a95 ?b95 ?c95 ?d95 ?e95 ?f95 ?g95 ?h95);(case a95=>k_is);(case b95=>k_is);(case c95=>k_is);(case d95=>k_is);(case e95=>k_is);(case f95=>k_is);(case g95=>k_is);(case h95=>(refine' ⟨?z95_0,?z95_1,?z95_2,?z95_3,?z95_4,?z95_5,?z95_6⟩);(case z95_0=>(show findIn _ _ _=some none);k_is);(case z95_1=>(show findIn _ _ _=some none);k_is);(case z95_2=>(refine' L2.fN ?az95_2 ?bz95_2 ?cz95_2 ?dz95_2 ?ez95_2);(case az95_2=>k_is);(case bz95_2=>k_is);(case cz95_2=>k_is);(case dz95_2=>k_is);(case ez95_2=>k_is));(case z95_3=>(refine' L2.fN ?az95_3 ?bz95_3 ?cz95_3 ?dz95_3 ?ez95_3);(case az95_3=>k_is);(case bz95_3=>k_is);(case cz95_3=>k_is);(case dz95_3=>k_is);(case ez95_3=>k_is));(case z95_4=>(refine' L2.fN ?az95_4 ?bz95_4 ?cz95_4 ?dz95_4 ?ez95_4);(case az95_4=>k_is);(case bz95_4=>k_is);(case cz95_4=>k_is);(case dz95_4=>k_is);(case ez95_4=>k_is));(case z95_5=>(refine' L2.fN ?az95_5 ?bz95_5 ?cz95_5 ?dz95_5 ?ez95_5);(case az95_5=>k_is);(case bz95_5=>k_is);(case cz95_5=>k_is);(case dz95_5=>k_is);(case ez95_5=>k_is));(case z95_6=>(refine' L2.fN ?az95_6 ?bz95_6 ?cz95_6 ?dz95_6 ?ez95_6);(case az95_6=>k_is);(case bz95_6=>k_is);(case cz95_6=>k_is);(case dz95_6=>k_is);(case ez95_6=>k_is))))
  (case p96=>(refine' L2.oO KX G ?a96 ?b96 ?c96 ?d96 ?e96 ?f96 ?g96 ?h96);(case a96=>k_is);(case b96=>k_is);(case c96=>k_is);(case d96=>k_is);(case e96=>k_is);(case f96=>k_is);(case g96=>k_is);(case h96=>(refine' ⟨?z96_0,?z96_1,?z96_2,?z96_3,?z96_4,?z96_5⟩);(case z96_0=>(show findIn _ _ _=some none);k_is);(case z96_1=>(refine' L2.fN ?az96_1 ?bz96_1 ?cz96_1 ?dz96_1 ?ez96_1);(case az96_1=>k_is);(case bz96_1=>k_is);(case cz96_1=>k_is);(case dz96_1=>k_is);(case ez96_1=>k_is));(case z96_2=>(refine' L2.fN ?az96_2 ?bz96_2 ?cz96_2 ?dz96_2 ?ez96_2);(case az96_2=>k_is);(case bz96_2=>k_is);(case cz96_2=>k_is);(case dz96_2=>k_is);(case ez96_2=>k_is));(case z96_3=>(refine' L2.fN ?az96_3 ?bz96_3 ?cz96_3 ?dz96_3 ?ez96_3);(case az96_3=>k_is);(case bz96_3=>k_is);(case cz96_3=>k_is);(case dz96_3=>k_is);(case ez96_3=>k_is));(case z96_4=>(refine' L2.fN ?az96_4 ?bz96_4 ?cz96_4 ?dz96_4 ?ez96_4);(case az96_4=>k_is);(case bz96_4=>k_is);(case cz96_4=>k_is);(case dz96_4=>k_is);(case ez96_4=>k_is));(case z96_5=>(refine' L2.fN ?az96_5 ?bz96_5 ?cz96_5 ?dz96_5 ?ez96_5);(case az96_5=>k_is);(case bz96_5=>k_is);(case cz96_5=>k_is);(case dz96_5=>k_is);(case ez96_5=>k_is))))
  (case p97=>(refine' L2.xf_mk KX G ?hC ?lC ?lN ?sk ?i1 ?i2 ?i3 ?i4 ?ia ?ib ?oa ?ob ?fn ?kp ?lf ?cf ?kf);(case hC=>k_is);(case lC=>k_is);(case lN=>k_is);(case i1=>k_is);(case i2=>k_is);(case i3=>k_is);(case i4=>k_is);(case ia=>k_is);(case ib=>k_is);(case fn=>k_is);(case kp=>k_is);(case lf=>k_is);(case cf=>k_is);(case kf=>k_is);(case sk=>(intro e he;simp at he;rcases he with rfl | rfl | rfl | rfl | rfl | rfl <;> exact ⟨_,_,rfl⟩));(case oa=>rfl);(case ob=>rfl))
  (case p98=>(refine' Lp.D9 KX G ?aD ?lD ?eD ?u0 ?u1 ?u2 ?u3 ?u4 ?u5 ?u6 ?u7 ?u8 ?u9 ?u10 ?u11 ?u12);(case aD=>k_is);(case lD=>k_is);(case eD=>rfl);(case u0=>(refine' Lp.h9 ?la0 ?ca0 ?za0 ?va0 ?lb0 ?cb0 ?zb0 ?vb0);(case la0=>k_is);(case ca0=>rfl);(case za0=>decide);(case va0=>exact .cons ⟨_,rfl⟩ (.cons ⟨_,rfl⟩ (.cons rfl .nil)));(case lb0=>k_is);(case cb0=>rfl);(case zb0=>decide);(case vb0=>exact .cons ⟨_,rfl⟩ (.cons ⟨_,rfl⟩ .nil)));(case u1=>(refine' Lp.h9 ?la1 ?ca1 ?za1 ?va1 ?lb1 ?cb1 ?zb1 ?vb1);(case la1=>k_is);(case ca1=>rfl);(case za1=>decide);(case va1=>exact .cons ⟨_,rfl⟩ (.cons ⟨_,rfl⟩ (.cons rfl .nil)));(case lb1=>k_is);(case cb1=>rfl);(case zb1=>decide);(case vb1=>exact .cons ⟨_,rfl⟩ (.cons ⟨_,rfl⟩ .nil)));(case u2=>(refine' Lp.h9 ?la2 ?ca2 ?za2 ?va2 ?lb2 ?cb2 ?zb2 ?vb2);(case la2=>k_is);(case ca2=>rfl);(case za2=>decide);(case va2=>exact .cons ⟨_,rfl⟩ (.cons ⟨_,rfl⟩ (.cons rfl .nil)));(case lb2=>k_is);(case cb2=>rfl);(case zb2=>decide);(case vb2=>exact .cons ⟨_,rfl⟩ (.cons ⟨_,rfl⟩ .nil)));(case u3=>(refine' Lp.h9 ?la3 ?ca3 ?za3 ?va3 ?lb3 ?cb3 ?zb3 ?vb3);(case la3=>k_is);(case ca3=>rfl);(case za3=>decide);(case va3=>exact .cons ⟨_,rfl⟩ (.cons ⟨_,rfl⟩ (.cons rfl .nil)));(case lb3=>k_is);(case cb3=>rfl);(case zb3=>decide);(case vb3=>exact .cons ⟨_,rfl⟩ (.cons ⟨_,rfl⟩ .nil)));(case u4=>(refine' Lp.h9 ?la4 ?ca4 ?za4 ?va4 ?lb4 ?cb4 ?zb4 ?vb4);(case la4=>k_is);(case ca4=>rfl);(case za4=>decide);(case va4=>exact .cons ⟨_,rfl⟩ (.cons ⟨_,rfl⟩ (.cons rfl .nil)));(case lb4=>k_is);(case cb4=>rfl);(case zb4=>decide);(case vb4=>exact .cons ⟨_,rfl⟩ (.cons ⟨_,rfl⟩ (.cons ⟨_,rfl⟩ .nil))));(case u5=>(refine' Lp.h9 ?la5 ?ca5 ?za5 ?va5 ?lb5 ?cb5 ?zb5 ?vb5);(case la5=>k_is);(case ca5=>rfl);(case za5=>decide);(case va5=>exact .cons ⟨_,rfl⟩ (.cons ⟨_,rfl⟩ (.cons rfl .nil)));(case lb5=>k_is);(case cb5=>rfl);(case zb5=>decide);(case vb5=>exact .nil));(case u6=>(refine' Lp.h9 ?la6 ?ca6 ?za6 ?va6 ?lb6 ?cb6 ?zb6 ?vb6);(case la6=>k_is);(case ca6=>rfl);(case za6=>decide);(case va6=>exact .cons ⟨_,rfl⟩ (.cons ⟨_,rfl⟩ (.cons rfl .nil)));(case lb6=>k_is);(case cb6=>rfl);(case zb6=>decide);(case vb6=>exact .cons ⟨_,rfl⟩ .nil));(case u7=>(refine' Lp.h9 ?la7 ?ca7 ?za7 ?va7 ?lb7 ?cb7 ?zb7 ?vb7);(case la7=>k_is);(case ca7=>rfl);(case za7=>decide);(case va7=>exact .cons ⟨_,rfl⟩ (.cons ⟨_,rfl⟩ (.cons rfl .nil)));(case lb7=>k_is);(case cb7=>rfl);(case zb7=>decide);(case vb7=>exact .cons ⟨_,rfl⟩ .nil));(case u8=>(refine' Lp.h9 ?la8 ?ca8 ?za8 ?va8 ?lb8 ?cb8 ?zb8 ?vb8);(case la8=>k_is);(case ca8=>rfl);(case za8=>decide);(case va8=>exact .cons ⟨_,rfl⟩ (.cons ⟨_,rfl⟩ (.cons rfl .nil)));(case lb8=>k_is);(case cb8=>rfl);(case zb8=>decide);(case vb8=>exact .nil));(case u9=>(refine' Lp.h9 ?la9 ?ca9 ?za9 ?va9 ?lb9 ?cb9 ?zb9 ?vb9);(case la9=>k_is);(case ca9=>rfl);(case za9=>decide);(case va9=>exact .cons ⟨_,rfl⟩ (.cons ⟨_,rfl⟩ (.cons rfl .nil)));(case lb9=>k_is);(case cb9=>rfl);(case zb9=>decide);(case vb9=>exact .nil));(case u10=>(refine' Lp.h9 ?la10 ?ca10 ?za10 ?va10 ?lb10 ?cb10 ?zb10 ?vb10);(case la10=>k_is);(case ca10=>rfl);(case za10=>decide);(case va10=>exact .cons ⟨_,rfl⟩ (.cons ⟨_,rfl⟩ (.cons rfl .nil)));(case lb10=>k_is);(case cb10=>rfl);(case zb10=>decide);(case vb10=>exact .nil));(case u11=>(refine' Lp.h9 ?la11 ?ca11 ?za11 ?va11 ?lb11 ?cb11 ?zb11 ?vb11);(case la11=>k_is);(case ca11=>rfl);(case za11=>decide);(case va11=>exact .cons ⟨_,rfl⟩ (.cons ⟨_,rfl⟩ (.cons rfl .nil)));(case lb11=>k_is);(case cb11=>rfl);(case zb11=>decide);(case vb11=>exact .nil));(case u12=>(refine' Lp.h9 ?la12 ?ca12 ?za12 ?va12 ?lb12 ?cb12 ?zb12 ?vb12);(case la12=>k_is);(case ca12=>rfl);(case za12=>decide);(case va12=>exact .cons ⟨_,rfl⟩ (.cons ⟨_,rfl⟩ (.cons rfl .nil)));(case lb12=>k_is);(case cb12=>rfl);(case zb12=>decide);(case vb12=>exact .nil)))
 case C =>
  intro w H s e s' z
  obtain ⟨_,_,_,_,_,_,_,_,_,_,_,_,_,_,_,hE⟩:=z
  exact hE.elim
