/- What lies within spans: sums, differences, products, means. -/
import Derived.Test.YtlinhlkgdlfefaaGreatDoorMMean
import Derived.Test.YtlinhlkgdlfefaaGreatDoorMMatter
import Derived.Test.YtlinhlkgdlfefaaGreatDoorMKeeps
import Derived.IntWalk
import Derived.Deep.RegionHeld3
import Derived.Test.YtlinhlkgdlfefaaGreatDoorMFewSpans
import Derived.Test.YtlinhlkgdlfefaaGreatDoorMSpansAid
import Derived.Test.YtlinhlkgdlfefaaGreatDoorMAddSpans
import Derived.Deep.DeepCutAuto
set_option linter.all false
namespace Go.Proofs.YtlinhlkgdlfefaaGreatDoor
open Go.RowKit
set_option maxRecDepth 100000
set_option maxHeartbeats 16000000
def qbx(a b:Rat)(k:Nat):Rat:=a+(b-a)*mkRat ((k % 8:Nat):Int) 7
theorem zan(k:Nat):(0:Rat)≤mkRat ((k % 8:Nat):Int) 7∧mkRat ((k % 8:Nat):Int) 7≤1:=by
 have h:k % 8<8:=Nat.mod_lt _ (by decide);generalize k % 8=r at *
 match r,h with
 | 0,_=>decide
 | 1,_=>decide
 | 2,_=>decide
 | 3,_=>decide
 | 4,_=>decide
 | 5,_=>decide
 | 6,_=>decide
 | 7,_=>decide
theorem qss{a b:Rat}(k:Nat)(h:a≤b):a≤qbx a b k∧qbx a b k≤b:=by
 obtain⟨h0,h1⟩:=zan k;unfold qbx;generalize mkRat ((k % 8:Nat):Int) 7=t at *;have p1:0≤(b-a)*t:=Rat.mul_nonneg (by grind) h0;have p2:0≤(b-a)*(1-t):=Rat.mul_nonneg (by grind) (by grind);constructor<;>grind
theorem qm9:∀(l:List Rat) (x:Rat),x ∈ l→qiv l≤x
 | [],x,h=>by cases h
 | [a],x,h=>by
  rcases List.mem_cons.1 h with rfl|h
  ·exact Rat.le_refl
  ·cases h
 | a::b::l,x,h=>by
  obtain⟨l',c,e⟩:∃l' c,a::b::l=l'++[c]:=⟨(a::b::l).dropLast,(a::b::l).getLast (by simp),(List.dropLast_concat_getLast _).symm⟩
  have hl:l'≠[]:=by
   rintro rfl;have:=congrArg List.length e;simp at this
  have hlen:l'.length<(a::b::l).length:=by rw[e];simp
  rw[e] at h ⊢;rw[qt5 l' c hl];rcases List.mem_append.1 h with h|h
  ·have:=qm9 l' x h
   split<;>grind
  ·rw[List.mem_singleton] at h
   subst h;split<;>grind
termination_by l=>l.length
theorem qna:∀(l:List Rat) (x:Rat),x ∈ l→x≤qih l
 | [],x,h=>by cases h
 | [a],x,h=>by
  rcases List.mem_cons.1 h with rfl|h
  ·exact Rat.le_refl
  ·cases h
 | a::b::l,x,h=>by
  obtain⟨l',c,e⟩:∃l' c,a::b::l=l'++[c]:=⟨(a::b::l).dropLast,(a::b::l).getLast (by simp),(List.dropLast_concat_getLast _).symm⟩
  have hl:l'≠[]:=by
   rintro rfl;have:=congrArg List.length e;simp at this
  have hlen:l'.length<(a::b::l).length:=by rw[e];simp
  rw[e] at h ⊢;rw[qt6 l' c hl];rcases List.mem_append.1 h with h|h
  ·have:=qna l' x h
   split<;>grind
  ·rw[List.mem_singleton] at h
   subst h;split<;>grind
termination_by l=>l.length
theorem qxe(a c d y:Rat)(h1:c≤y)(h2:y≤d):a*c≤a*y∨a*d≤a*y:=by
 by_cases h:0≤a
 ·have:=Rat.mul_nonneg h (show 0≤y-c by grind)
  left;grind
 ·have:=Rat.mul_nonneg (show 0 ≤ -a by grind) (show 0≤d-y by grind)
  right;grind
theorem qst(a c d y:Rat)(h1:c≤y)(h2:y≤d):a*y≤a*c∨a*y≤a*d:=by
 by_cases h:0≤a
 ·have:=Rat.mul_nonneg h (show 0≤d-y by grind)
  right;grind
 ·have:=Rat.mul_nonneg (show 0 ≤ -a by grind) (show 0≤y-c by grind)
  left;grind
theorem q0u{a b c d x y:Rat}(h1:a≤x)(h2:x≤b)(h3:c≤y)(h4:y≤d):qiv [a*c,a*d,b*c,b*d]≤x*y∧x*y≤qih [a*c,a*d,b*c,b*d]:=by
 have q1:=qm9 [a*c,a*d,b*c,b*d] (a*c) (by simp);have q2:=qm9 [a*c,a*d,b*c,b*d] (a*d) (by simp);have q3:=qm9 [a*c,a*d,b*c,b*d] (b*c) (by simp);have q4:=qm9 [a*c,a*d,b*c,b*d] (b*d) (by simp);have r1:=qna [a*c,a*d,b*c,b*d] (a*c) (by simp);have r2:=qna [a*c,a*d,b*c,b*d] (a*d) (by simp);have r3:=qna [a*c,a*d,b*c,b*d] (b*c) (by simp);have r4:=qna [a*c,a*d,b*c,b*d] (b*d) (by simp);generalize qiv [a*c,a*d,b*c,b*d]=mi at *;generalize qih [a*c,a*d,b*c,b*d]=ma at *;constructor
 ·rcases qxe y a b x h1 h2 with h|h
  ·rcases qxe a c d y h3 h4 with g|g<;>grind
  ·rcases qxe b c d y h3 h4 with g|g<;>grind
 ·rcases qst y a b x h1 h2 with h|h
  ·rcases qst a c d y h3 h4 with g|g<;>grind
  ·rcases qst b c d y h3 h4 with g|g<;>grind
theorem zbf(a b c a' b' c':Rat)(x y z:Int):qq3 [(a,a'),(b,b'),(c,c')] [x,y,z] 3=(0+a*(x:Rat)+b*(y:Rat)+c*(z:Rat),0+a'*(x:Rat)+b'*(y:Rat)+c'*(z:Rat)):=rfl
theorem qbv{a b s:Rat}(h:a≤b)(hs:0≤s):a*s≤b*s:=by
 have:=Rat.mul_nonneg (show 0≤b-a by grind) hs
 grind
theorem qri{a b s:Rat}(h:a≤b)(hs:0<s):a/s≤b/s:=by
 rw[Rat.div_def,Rat.div_def];exact qbv h (Rat.le_of_lt (Rat.inv_pos.2 hs))
theorem qxf{a b c a' b' c' u v t:Rat}(x y z:Int)(h1:a≤u∧u≤a')(h2:b≤v∧v≤b')(h3:c≤t∧t≤c')(hx:0≤x)(hy:0≤y)(hz:1≤z):
  (qhx [(a,a'),(b,b'),(c,c')] [x,y,z]).1≤(qq3 [(u,u),(v,v),(t,t)] [x,y,z] 3).1/(([x,y,z].sum:Int):Rat)∧
  (qq3 [(u,u),(v,v),(t,t)] [x,y,z] 3).1/(([x,y,z].sum:Int):Rat)≤(qhx [(a,a'),(b,b'),(c,c')] [x,y,z]).2:=by
 have hs:(0:Rat)<(([x,y,z].sum:Int):Rat):=by
  have:0<[x,y,z].sum:=by simp;omega
  exact_mod_cast this
 have ex:(0:Rat)≤(x:Rat):=by exact_mod_cast hx
 have ey:(0:Rat)≤(y:Rat):=by exact_mod_cast hy
 have ez:(0:Rat)≤(z:Rat):=by exact_mod_cast (show(0:Int)≤z by omega)
 unfold qhx;show(qq3 [(a,a'),(b,b'),(c,c')] [x,y,z] 3).1/_≤_∧_≤(qq3 [(a,a'),(b,b'),(c,c')] [x,y,z] 3).2/_;rw[zbf,zbf];have p1:=qbv h1.1 ex;have p2:=qbv h1.2 ex;have p3:=qbv h2.1 ey;have p4:=qbv h2.2 ey;have p5:=qbv h3.1 ez;have p6:=qbv h3.2 ez;exact⟨qri (by show 0+a*(x:Rat)+b*(y:Rat)+c*(z:Rat)≤0+u*(x:Rat)+v*(y:Rat)+t*(z:Rat);grind) hs,qri (by show 0+u*(x:Rat)+v*(y:Rat)+t*(z:Rat)≤0+a'*(x:Rat)+b'*(y:Rat)+c'*(z:Rat);grind) hs⟩
theorem zao:(⟨#[48]⟩:ByteArray)=rt 0:=by kernel_rfl
def qsu(rs:List Rat)(ws:List Int)(k:Nat):Rat:=(qq3 (rs.map fun r=>(r,r)) ws k).1
theorem qve(rs:List Rat)(ws:List Int)(k:Nat):qsu rs ws (k+1)=qsu rs ws k+rs.getD k 0*((ws.getD k 0:Int):Rat):=by
 unfold qsu;show(qq3 (rs.map fun r=>(r,r)) ws k).1+((rs.map fun r=>(r,r)).getD k (0,0)).1*((ws.getD k 0:Int):Rat)=_
 congr 2
 rw[List.getD_eq_getElem?_getD,List.getD_eq_getElem?_getD,List.getElem?_map];cases rs[k]? <;> rfl
theorem q6z{z:Int}(h:wIn z=true):sm (z:Rat) 9:=by
 have:=qh6.1 h;exact⟨by show z.natAbs<10^9;omega,by show 1<10^9;decide⟩
theorem qvf(k:Nat)(hk:1≤k):sm 0 k:=qbw (qgi 0 (by decide) (by decide)) hk
theorem qxg{rs:List Rat}{ws:List Int}{j:Nat}(hr:∀r ∈ rs,sm r j)(hw:∀x ∈ ws,wIn x=true)(hj:1≤j):∀k,sm (qsu rs ws k) ((j+10)*k+1)
 | 0=>qvf _ (by omega)
 | k+1=>by
  rw[qve];have h1:=qxg hr hw hj k
  have h2:sm (rs.getD k 0) j:=by
   rw[List.getD_eq_getElem?_getD];cases e:rs[k]? with
   | none=>exact qvf _ hj
   | some r=>exact hr r (List.mem_of_getElem? e)
  have h3:sm ((ws.getD k 0:Int):Rat) 9:=by
   rw[List.getD_eq_getElem?_getD];cases e:ws[k]? with
   | none=>exact q6z (z:=0) (by decide)
   | some r=>exact q6z (hw r (List.mem_of_getElem? e))
  exact qbw (qkk h1 (qkl h2 h3)) (by rw[Nat.mul_add];omega)
theorem zap{ws:List Int}(hw:∀x ∈ ws,wIn x=true):∀k,0≤(ws.take k).sum∧(ws.take k).sum≤999999999*(k:Int):=fun k=>by
 have h:=qhj (ws.take k) fun x hx=>hw x (List.mem_of_mem_take hx);have:(ws.take k).length≤k:=List.length_take_le _ _;exact⟨h.1,by omega⟩
theorem qyq(z:Int)(W:World)(h0:0≤z)(h1:z<9223372036854775808):Calls Tryz.prog 49 #[.int .i64 z] W (qnv (z:Rat) W):=by
 have h:=q6x z.toNat W (by omega)
 rwa [Int.toNat_of_nonneg h0] at h
theorem q60(vl vw:Value)(rs:List Rat)(ws:List Int)(j:Nat)(w:World)(hl:qpq w vl (rs.map rt))(hw:qs8 w vw ws)(hlen:ws.length=rs.length)(hn:rs.length≤10)(hj:1≤j)(hj2:j≤100)(hr:∀r ∈ rs,sm r j)(hws:∀x ∈ ws,wIn x=true)(h0:ws.sum≠0):
  Calls Tryz.prog 16 #[vl,vw] w (qnv (qsu rs ws rs.length/((ws.sum:Int):Rat)) w):=by
 obtain⟨p,o1,c,rfl,hc1,hc2,hrow⟩:=hl;obtain⟨p',c',rfl,hc1',hc2',hcells⟩:=hw;rw[List.length_map] at *;unfold maxLen at hc2 hc2';have HROW:=hid hrow;have HC:=hid hcells;have HSM:=hid (qxg hr hws hj);have HR:=hid hr;have HW:=hid hws;have HS:=hid (zap hws);have HLEN:=hid hlen;have HSN:=hid h0;have HJ:=hid hj2;have HJ1:=hid hj;unfold qnv;obtain⟨T,hT⟩:∃T,T=rt (qsu rs ws rs.length/((ws.sum:Int):Rat)):=⟨_,rfl⟩;rw[←hT];have HT:=hid hT;clear hT hrow hcells hr hws h0 hj hj2;rw[hlen] at hc1' ⊢;clear hlen;generalize hN:rs.length=n at *;have HN:=hid hN;clear hN;go_enter Tryz.func16,Tryz.ntmps16;go_wp2_with fail
 go_loopw [5,6,7] (fun s t i wr=>∃k:Nat,k≤n∧i = .int .i64 k∧s = .string (rt (qsu rs ws k))∧(∃z:Int,t = .int .i64 z∧0≤z∧z≤999999999*k∧Hid (z=(ws.take k).sum))∧Hid (Below w.heap.size w wr)) (fun _ _ i _=>n-(intOf i).toNat)
 case atStart=>exact⟨0,Nat.zero_le _,rfl,by rw[zao];rfl,⟨0,rfl,Int.le_refl _,by omega,hid rfl⟩,hid (Below.refl _ _)⟩
 case round=>
  obtain⟨k,hk,rfl,rfl,⟨z,rfl,hz0,hz1,HZ⟩,HB⟩:=hrel;by_cases hlt:k<n
  ·rcases HC.out with he|⟨bb,oo,rfl,hrw⟩
   ·exact absurd he (by have:=HLEN.out;omega)
   have hkr:k<rs.length:=by rw[HN.out];exact hlt
   have hkw:k<ws.length:=by rw[HLEN.out];exact hlt
   have hxin:=HW.out (ws.getD k 0) (by rw[List.getD_eq_getElem?_getD,List.getElem?_eq_getElem hkw,Option.getD_some];exact List.getElem_mem _);have hrin:=HR.out (rs.getD k 0) (by rw[List.getD_eq_getElem?_getD,List.getElem?_eq_getElem hkr,Option.getD_some];exact List.getElem_mem _)
   have HCELL:Hid (∀W,Below w.heap.size w W→W.cell? ⟨p,o1+k,none⟩=some (.string (rt (rs.getD k 0)))∧W.cell? ⟨bb,oo+k,none⟩=some (.int .i64 (ws.getD k 0))):=hid fun W hW=>by
    have e0:=HROW.out k (rt (rs.getD k 0)) (by rw[List.getElem?_map,List.getD_eq_getElem?_getD,List.getElem?_eq_getElem hkr];rfl);have e1:w.cell? ⟨bb,oo+k,none⟩=some (.int .i64 (ws.getD k 0)):=hrw k hkw;rw[hW.cell (World.block_lt_of_cell? w _ e0),hW.cell (World.block_lt_of_cell? w _ e1)];exact⟨e0,e1⟩
   obtain⟨hx0,hx1⟩:=qh6.1 hxin;have hmu:(j+10)*k≤110*10:=Nat.mul_le_mul (by have:=HJ.out;omega) (by omega);have HF:=hid fun W=>qyq (ws.getD k 0) W hx0 (by omega);have HM:=hid fun W=>qus (rs.getD k 0) ((ws.getD k 0:Int):Rat) 110 W (qbw hrin (by have:=HJ.out;omega)) (qbw (q6z hxin) (by omega)) (by omega);have QA:=fun W=>qur (qsu rs ws k) (rs.getD k 0*((ws.getD k 0:Int):Rat)) 1200 W (qbw (HSM.out k) (by omega)) (qbw (qkl hrin (q6z hxin)) (by have:=HJ.out;omega)) (by omega);rw[←qve] at QA;have HA:=hid QA;have HZN:Hid (z+ws.getD k 0=(ws.take (k+1)).sum):=hid (by rw[qf6 ws k hkw,←HZ.out]);obtain⟨tb,htb⟩:∃t,t=rt (qsu rs ws (k+1)):=⟨_,rfl⟩;have HTB:=hid htb;unfold qnv at HF HM HA;rw[←htb] at HA;have HBc:=hid HB.out.drew;have hi0:(0:Int)≤(k:Int):=by omega
   have hi1:(k:Int)<(n:Int):=by omega
   clear htb QA hrw hxin hrin hmu HZ hkr hkw;generalize rt (qsu rs ws k)=ta at *;generalize rt (rs.getD k 0*((ws.getD k 0:Int):Rat))=tm at *;generalize rt ((ws.getD k 0:Int):Rat)=tx at *;generalize rt (rs.getD k 0)=tr at *;generalize ws.getD k 0=x at *;have eZ:=HCELL.out _ HBc.out;go_wp2_with fail
   go_region_held3 (fun W=>W.cell? ⟨p,o1+k,none⟩=some (.string tr)∧W.cell? ⟨bb,oo+k,none⟩=some (.int .i64 x)) (exact HCELL.out _ HBc.out)
    (first
     | (go_at_call 49;((with_reducible refine(HF.out _).mono ?_);rintro e wA ⟨rfl,hb⟩;have HBc:=hid (HBc.out.trans (hb.mono HBc.out.size));clear hb))
     | (go_at_call 14;((with_reducible refine(HM.out _).mono ?_);rintro e wB ⟨rfl,hb⟩;have HBc:=hid (HBc.out.trans (hb.mono HBc.out.size));clear hb))
     | (go_at_call 12;((with_reducible refine(HA.out _).mono ?_);rintro e wC ⟨rfl,hb⟩;have HBc:=hid (HBc.out.trans (hb.mono HBc.out.size));clear hb)))
   all_goals
    obtain⟨-,eX⟩:=HCELL.out _ HBc.out;have hsum:IntKind.i64.wrap (z+x)=z+x:=IntWalk.i64_in _ (by omega);go_wp2_with fail;go_roundw
    case rel=>exact⟨k+1,by omega,by go_num,by rw[HTB.out],⟨z+x,rfl,by omega,by omega,HZN⟩,HBc⟩
    case measure=>simp[intOf];omega
  ·have hkn:k=n:=by omega
   subst hkn;have hzs:z=ws.sum:=by rw[HZ.out,List.take_of_length_le (by have:=HLEN.out;omega)]
   have hmu:(j+10)*k≤110*10:=Nat.mul_le_mul (by have:=HJ.out;omega) (by omega);have HF:=hid fun W=>qyq z W hz0 (by omega);have QD:=fun W=>zad (qsu rs ws k) (z:Rat) 1200 W (qbw (HSM.out k) (by omega)) (qbw (k:=1200) (j:=11) ⟨by show z.natAbs<10^11;omega,by show 1<10^11;decide⟩ (by omega)) (by omega) (by show z≠0;rw[hzs];exact HSN.out);have HTT:=HT.out;rw[←hzs] at HTT;unfold qnv at HF QD;rw[←HTT] at QD;have HD:=hid QD;clear QD HTT hmu hzs;generalize rt (qsu rs ws k)=ta at *;generalize rt (z:Rat)=tz at *;go_wp2_with fail;refine(HF.out _).mono ?_;rintro e wA ⟨rfl,hb⟩;have HBA:=hid (HB.out.trans (hb.mono HB.out.size));clear hb HF;go_wp2_with fail;refine(HD.out _).mono ?_;rintro e wB ⟨rfl,hb⟩;have HBB:=hid (HBA.out.trans (hb.mono HBA.out.size));clear hb HD;go_wp2_with fail;go_ret;exact⟨rfl,HBB.out⟩
theorem q4d(k:Nat):sm (mkRat ((k % 8:Nat):Int) 7) 1:=by
 have h:k % 8<8:=Nat.mod_lt _ (by decide);generalize k % 8=r at *
 match r,h with
 | 0,_=>exact qgi _ (by decide) (by decide)
 | 1,_=>exact qgi _ (by decide) (by decide)
 | 2,_=>exact qgi _ (by decide) (by decide)
 | 3,_=>exact qgi _ (by decide) (by decide)
 | 4,_=>exact qgi _ (by decide) (by decide)
 | 5,_=>exact qgi _ (by decide) (by decide)
 | 6,_=>exact qgi _ (by decide) (by decide)
 | 7,_=>exact qgi _ (by decide) (by decide)
theorem qxh{a b:Rat}{j:Nat}(k:Nat)(sa:sm a j)(sb:sm b j):sm (qbx a b k) (3*j+3):=
 qbw (qkk sa (qkl (qkm sb sa) (q4d k))) (by omega)
theorem qjq{q:Rat}{k d:Nat}(h:sm q k)(hk:k+1≤d)(hd:d≤600):qp1 (rt q) d=true:=by
 unfold qp1;rw[qgh (qb8 h (by omega)),qdh,qb8 h hk,decide_eq_true (by have:=qb5 h;omega)];rfl
theorem qsv(a b:Rat)(k:Nat)(w:World)(hk:k<256)(sa:sm a 6)(sb:sm b 6):
  Calls Tryz.prog 7 #[.agg #[.string (rt a),.string (rt b)],.int .u8 (k:Int)] w (qnv (qbx a b k) w):=by
 have HS:=hid fun W=>qyk b a 6 W sb sa (by decide);have HO:Hid (∀W,Calls Tryz.prog 32 #[.int .i64 ((k % 8:Nat):Int),.int .i64 7] W (qnv (mkRat ((k % 8:Nat):Int) 7) W)):=hid fun W=>q8u ((k % 8:Nat):Int) 7 W (by decide) (by omega) (by decide);have HM:=hid fun W=>qus (b-a) (mkRat ((k % 8:Nat):Int) 7) 13 W (qkm sb sa) (qbw (q4d k) (by decide)) (by decide);have HA:Hid (∀W,Calls Tryz.prog 12 #[.string (rt a),.string (rt ((b-a)*mkRat ((k % 8:Nat):Int) 7))] W (qnv (qbx a b k) W)):=hid fun W=>qur a ((b-a)*mkRat ((k % 8:Nat):Int) 7) 14 W (qbw sa (by decide)) (qkl (qkm sb sa) (q4d k)) (by decide);unfold qnv at *;have hwk:IntKind.i64.wrap (k:Int)=(k:Int):=IntWalk.i64_in _ (by omega);have hm:(k:Int).tmod 8=((k % 8:Nat):Int):=by rw[Int.tmod_eq_emod_of_nonneg (by omega)];omega
 have HCELL:Hid (∀W,Below (w.alloc (.cells #[.string (rt a),.string (rt b)] 24)).heap.size (w.alloc (.cells #[.string (rt a),.string (rt b)] 24)) W→W.cell? ⟨w.heap.size,0,none⟩=some (.string (rt a))∧W.cell? ⟨w.heap.size,1,none⟩=some (.string (rt b))):=hid fun W hW=>by
  rw[hW.cell (p:=⟨w.heap.size,0,none⟩) (by rw[World.size_alloc];exact Nat.lt_succ_self _),hW.cell (p:=⟨w.heap.size,1,none⟩) (by rw[World.size_alloc];exact Nat.lt_succ_self _),World.cell?_alloc_at _ _ _ _ rfl,World.cell?_alloc_at _ _ _ _ rfl];exact⟨rfl,rfl⟩
 have HB0:=hid ((Below.refl w.heap.size w).alloc (Nat.le_refl _) (.cells #[.string (rt a),.string (rt b)] 24));have HBc:=hid ((Below.refl (w.alloc (.cells #[.string (rt a),.string (rt b)] 24)).heap.size (w.alloc (.cells #[.string (rt a),.string (rt b)] 24))).drew);have hk0:(0:Int)≤(k:Int):=by omega
 have hk1:(k:Int)≤255:=by omega
 have hm0:(0:Int)≤((k % 8:Nat):Int):=by omega
 have hm1:((k % 8:Nat):Int)≤7:=by omega
 clear sa sb hk;generalize rt (qbx a b k)=tz at *;generalize rt ((b-a)*mkRat ((k % 8:Nat):Int) 7)=ty at *;generalize rt (mkRat ((k % 8:Nat):Int) 7)=tx at *;generalize rt (b-a)=td at *;generalize rt a=ta at *;generalize rt b=tb at *;generalize ((k % 8:Nat):Int)=m at *;go_enter Tryz.func7,Tryz.ntmps7;have eZ:=HCELL.out _ HBc.out;go_wp2_with fail
 go_region_held3 (fun W=>W.cell? ⟨w.heap.size,0,none⟩=some (.string ta)∧W.cell? ⟨w.heap.size,1,none⟩=some (.string tb)) (exact HCELL.out _ HBc.out)
  (first
   | (go_at_call 13;((with_reducible refine(HS.out _).mono ?_);rintro e wA ⟨rfl,hb⟩;have HBc:=hid (HBc.out.trans (hb.mono HBc.out.size));clear hb))
   | (go_at_call 32;((with_reducible refine(HO.out _).mono ?_);rintro e wB ⟨rfl,hb⟩;have HBc:=hid (HBc.out.trans (hb.mono HBc.out.size));clear hb))
   | (go_at_call 14;((with_reducible refine(HM.out _).mono ?_);rintro e wC ⟨rfl,hb⟩;have HBc:=hid (HBc.out.trans (hb.mono HBc.out.size));clear hb))
   | (go_at_call 12;((with_reducible refine(HA.out _).mono ?_);rintro e wD ⟨rfl,hb⟩;have HBc:=hid (HBc.out.trans (hb.mono HBc.out.size));clear hb)))
 all_goals
  go_wp2_with fail;go_ret;exact⟨rfl,HB0.out.trans (HBc.out.mono (by rw[World.size_alloc];omega))⟩
def qsw(w:World)(ta tb tc td te tf:ByteArray)(k0 k1 k2 h0 h1 h2:Int):World:=
 ((w.alloc (.cells #[.string ta,.string tb,.string tc,.string td,.string te,.string tf] 25)).alloc (.cells #[.int .u8 k0,.int .u8 k1,.int .u8 k2] 26)).alloc (.cells #[.int .u8 h0,.int .u8 h1,.int .u8 h2] 26)
theorem ql8(w:World)(ta tb tc td te tf:ByteArray)(k0 k1 k2 h0 h1 h2:Int):Below w.heap.size w (qsw w ta tb tc td te tf k0 k1 k2 h0 h1 h2)∧(qsw w ta tb tc td te tf k0 k1 k2 h0 h1 h2).heap.size=w.heap.size+1+1+1:=
 ⟨(((Below.refl _ _).alloc (Nat.le_refl _) _).alloc (by rw[World.size_alloc];omega) _).alloc (by rw[World.size_alloc,World.size_alloc];omega) _,by unfold qsw;rw[World.size_alloc,World.size_alloc,World.size_alloc]⟩
theorem qvg(w:World)(ta tb tc td te tf:ByteArray)(k0 k1 k2 h0 h1 h2:Int)(W:World)(hW:Below (qsw w ta tb tc td te tf k0 k1 k2 h0 h1 h2).heap.size (qsw w ta tb tc td te tf k0 k1 k2 h0 h1 h2) W):
  (W.cell? ⟨w.heap.size,0,none⟩=some (.string ta)∧W.cell? ⟨w.heap.size,1,none⟩=some (.string tb)∧W.cell? ⟨w.heap.size,2,none⟩=some (.string tc)∧W.cell? ⟨w.heap.size,3,none⟩=some (.string td)∧W.cell? ⟨w.heap.size,4,none⟩=some (.string te)∧W.cell? ⟨w.heap.size,5,none⟩=some (.string tf))∧
  (W.cell? ⟨w.heap.size+1,0,none⟩=some (.int .u8 k0)∧W.cell? ⟨w.heap.size+1,1,none⟩=some (.int .u8 k1)∧W.cell? ⟨w.heap.size+1,2,none⟩=some (.int .u8 k2))∧
  W.cell? ⟨w.heap.size+1+1,0,none⟩=some (.int .u8 h0)∧W.cell? ⟨w.heap.size+1+1,1,none⟩=some (.int .u8 h1)∧W.cell? ⟨w.heap.size+1+1,2,none⟩=some (.int .u8 h2):=by
 obtain⟨-,hz⟩:=ql8 w ta tb tc td te tf k0 k1 k2 h0 h1 h2;have c0:∀i,W.cell? ⟨w.heap.size,i,none⟩=(qsw w ta tb tc td te tf k0 k1 k2 h0 h1 h2).cell? ⟨w.heap.size,i,none⟩:=fun i=>hW.cell (p:=⟨w.heap.size,i,none⟩) (by rw[hz];show w.heap.size<_;omega);have c1:∀i,W.cell? ⟨w.heap.size+1,i,none⟩=(qsw w ta tb tc td te tf k0 k1 k2 h0 h1 h2).cell? ⟨w.heap.size+1,i,none⟩:=fun i=>hW.cell (p:=⟨w.heap.size+1,i,none⟩) (by rw[hz];show w.heap.size+1<_;omega);have c2:∀i,W.cell? ⟨w.heap.size+1+1,i,none⟩=(qsw w ta tb tc td te tf k0 k1 k2 h0 h1 h2).cell? ⟨w.heap.size+1+1,i,none⟩:=fun i=>hW.cell (p:=⟨w.heap.size+1+1,i,none⟩) (by rw[hz];show w.heap.size+1+1<_;omega);have s1:(w.alloc (.cells #[.string ta,.string tb,.string tc,.string td,.string te,.string tf] 25)).heap.size=w.heap.size+1:=World.size_alloc _ _;have s2:((w.alloc (.cells #[.string ta,.string tb,.string tc,.string td,.string te,.string tf] 25)).alloc (.cells #[.int .u8 k0,.int .u8 k1,.int .u8 k2] 26)).heap.size=w.heap.size+1+1:=by rw[World.size_alloc,s1]
 have d0:∀i,(qsw w ta tb tc td te tf k0 k1 k2 h0 h1 h2).cell? ⟨w.heap.size,i,none⟩=(#[.string ta,.string tb,.string tc,.string td,.string te,.string tf]:Array Value)[i]? := fun i=>by
  unfold qsw;rw[World.cell?_alloc_lt _ _ _ (by rw[s2];show w.heap.size<_;omega),World.cell?_alloc_lt _ _ _ (by rw[s1];show w.heap.size<_;omega),World.cell?_alloc_at _ _ _ _ rfl]
 have d1:∀i,(qsw w ta tb tc td te tf k0 k1 k2 h0 h1 h2).cell? ⟨w.heap.size+1,i,none⟩=(#[.int .u8 k0,.int .u8 k1,.int .u8 k2]:Array Value)[i]? := fun i=>by
  unfold qsw;rw[World.cell?_alloc_lt _ _ _ (by rw[s2];show w.heap.size+1<_;omega),World.cell?_alloc_at _ _ _ _ s1.symm]
 have d2:∀i,(qsw w ta tb tc td te tf k0 k1 k2 h0 h1 h2).cell? ⟨w.heap.size+1+1,i,none⟩=(#[.int .u8 h0,.int .u8 h1,.int .u8 h2]:Array Value)[i]? := fun i=>by
  unfold qsw;rw[World.cell?_alloc_at _ _ _ _ s2.symm]
 refine⟨⟨?_, ?_, ?_, ?_, ?_, ?_⟩,⟨?_, ?_, ?_⟩, ?_, ?_, ?_⟩
 all_goals first|(rw[c0,d0];rfl)|(rw[c1,d1];rfl)|(rw[c2,d2];rfl)
theorem qvh(w:World)(ta tb tc td te tf:ByteArray)(k0 k1 k2 h0 h1 h2:Int):qb7 (qsw w ta tb tc td te tf k0 k1 k2 h0 h1 h2) (.slice (some ⟨w.heap.size,0,none⟩) 3 3) [(ta,tb),(tc,td),(te,tf)]:=by
 obtain⟨⟨e0,e1,e2,e3,e4,e5⟩,-⟩:=qvg w ta tb tc td te tf k0 k1 k2 h0 h1 h2 _ (Below.refl _ _);refine⟨_,3,rfl,Nat.le_refl _,by decide,.inr ⟨w.heap.size,0,rfl,fun j s hj => ?_⟩⟩
 match j,hj with
 | 0,hj=>cases hj;exact⟨e0,e1⟩
 | 1,hj=>cases hj;exact⟨e2,e3⟩
 | 2,hj=>cases hj;exact⟨e4,e5⟩
theorem qxi(W:World)(a b c d e f:ByteArray)(t:TypeId):qb7 (W.alloc (.cells #[.string a,.string b,.string c,.string d,.string e,.string f] t)) (.slice (some ⟨W.heap.size,0,none⟩) 3 3) [(a,b),(c,d),(e,f)]:=by
 refine⟨_,3,rfl,Nat.le_refl _,by decide,.inr ⟨W.heap.size,0,rfl,fun j s hj => ?_⟩⟩;rw[World.cell?_alloc_at _ _ _ _ rfl,World.cell?_alloc_at _ _ _ _ rfl]
 match j,hj with
 | 0,hj=>cases hj;exact⟨rfl,rfl⟩
 | 1,hj=>cases hj;exact⟨rfl,rfl⟩
 | 2,hj=>cases hj;exact⟨rfl,rfl⟩
theorem q4e(W:World)(a b:ByteArray)(t:TypeId):qb7 (W.alloc (.cells #[.string a,.string b] t)) (.slice (some ⟨W.heap.size,0,none⟩) 1 1) [(a,b)]:=by
 refine⟨_,1,rfl,Nat.le_refl _,by decide,.inr ⟨W.heap.size,0,rfl,fun j s hj => ?_⟩⟩;rw[World.cell?_alloc_at _ _ _ _ rfl,World.cell?_alloc_at _ _ _ _ rfl]
 match j,hj with
 | 0,hj=>cases hj;exact⟨rfl,rfl⟩
theorem qxj(W:World)(a b c:ByteArray)(t:TypeId):qpq (W.alloc (.cells #[.string a,.string b,.string c] t)) (.slice (some ⟨W.heap.size,0,none⟩) 3 3) [a,b,c]:=by
 refine⟨_,0,3,rfl,Nat.le_refl _,by decide,fun j s hj => ?_⟩;rw[World.cell?_alloc_at _ _ _ _ rfl]
 match j,hj with
 | 0,hj=>cases hj;rfl
 | 1,hj=>cases hj;rfl
 | 2,hj=>cases hj;rfl
theorem q0v(W:World)(x y z:Int)(t:TypeId):qs8 (W.alloc (.cells #[.int .i64 x,.int .i64 y,.int .i64 z] t)) (.slice (some ⟨W.heap.size,0,none⟩) 3 3) [x,y,z]:=by
 refine⟨_,3,rfl,Nat.le_refl _,by decide,.inr ⟨W.heap.size,0,rfl,fun i hi => ?_⟩⟩;rw[World.cell?_alloc_at _ _ _ _ rfl]
 match i,hi with
 | 0,_=>rfl
 | 1,_=>rfl
 | 2,_=>rfl
theorem qyr{w W:World}{r:Nat × ByteArray × ByteArray}{L:List (Nat × ByteArray × ByteArray)}(h:Bxs w (r::L) W):Bxs w L W:=⟨h.1,fun x hx=>h.2 x (List.mem_cons_of_mem _ hx)⟩
def BxI(w1:World)(gw:Nat)(ws:List Int)(L:List (Nat × ByteArray × ByteArray))(W:World):Prop:=Bxs w1 L W∧qs8 W (.slice (some ⟨gw,0,none⟩) 3 3) ws
theorem BxI.later{w1 W W':World}{gw:Nat}{ws:List Int}{L:List (Nat × ByteArray × ByteArray)}(h:BxI w1 gw ws L W)(hb:Below W.heap.size W W'):BxI w1 gw ws L W':=⟨h.1.later hb,h.2.later hb⟩
theorem q4f{w1:World}(hg:GW w1)(gw:Nat)(ws:List Int)(L:List (Nat × ByteArray × ByteArray)):Inv (BxI w1 gw ws L):=⟨fun _ _ h hb=>h.later hb,fun _ h=>hg.later h.1.1⟩
theorem q4g{w1 W:World}{gw:Nat}{ws:List Int}{L:List (Nat × ByteArray × ByteArray)}(h:BxI w1 gw ws L W)(t:TypeId)(a b:ByteArray):BxI w1 gw ws ((W.heap.size,a,b)::L) (W.alloc (.cells #[.string a,.string b] t)):=
 ⟨qdc h.1 t a b,h.2.later ((Below.refl _ _).alloc (Nat.le_refl _) _)⟩
theorem al6{W:World}{g:Nat}{x0 x1 x2 x3 x4 x5:ByteArray}(o:Obj)(h:W.cell? ⟨g,0,none⟩=some (.string x0)∧W.cell? ⟨g,1,none⟩=some (.string x1)∧W.cell? ⟨g,2,none⟩=some (.string x2)∧W.cell? ⟨g,3,none⟩=some (.string x3)∧W.cell? ⟨g,4,none⟩=some (.string x4)∧W.cell? ⟨g,5,none⟩=some (.string x5)):(W.alloc o).cell? ⟨g,0,none⟩=some (.string x0)∧(W.alloc o).cell? ⟨g,1,none⟩=some (.string x1)∧(W.alloc o).cell? ⟨g,2,none⟩=some (.string x2)∧(W.alloc o).cell? ⟨g,3,none⟩=some (.string x3)∧(W.alloc o).cell? ⟨g,4,none⟩=some (.string x4)∧(W.alloc o).cell? ⟨g,5,none⟩=some (.string x5):=by
 have k:∀i v,W.cell? ⟨g,i,none⟩=some v→(W.alloc o).cell? ⟨g,i,none⟩=some v:=fun i v hv=>by rw[World.cell?_alloc_lt _ _ _ (World.block_lt_of_cell? W _ hv)];exact hv
 exact⟨k _ _ h.1,k _ _ h.2.1,k _ _ h.2.2.1,k _ _ h.2.2.2.1,k _ _ h.2.2.2.2.1,k _ _ h.2.2.2.2.2⟩
theorem zbg{W:World}{g:Nat}{x0 x1 x2 x3 x4 x5:ByteArray}(o o':Obj)(h:W.cell? ⟨g,0,none⟩=some (.string x0)∧W.cell? ⟨g,1,none⟩=some (.string x1)∧W.cell? ⟨g,2,none⟩=some (.string x2)∧W.cell? ⟨g,3,none⟩=some (.string x3)∧W.cell? ⟨g,4,none⟩=some (.string x4)∧W.cell? ⟨g,5,none⟩=some (.string x5)):((W.alloc o).alloc o').cell? ⟨g,0,none⟩=some (.string x0)∧((W.alloc o).alloc o').cell? ⟨g,1,none⟩=some (.string x1)∧((W.alloc o).alloc o').cell? ⟨g,2,none⟩=some (.string x2)∧((W.alloc o).alloc o').cell? ⟨g,3,none⟩=some (.string x3)∧((W.alloc o).alloc o').cell? ⟨g,4,none⟩=some (.string x4)∧((W.alloc o).alloc o').cell? ⟨g,5,none⟩=some (.string x5):=al6 o' (al6 o h)
theorem zbk{W:World}{g:Nat}{x0 x1 x2 x3 x4 x5:ByteArray}(o:Obj)(h:W.cell? ⟨g,0,none⟩=some (.string x0)∧W.cell? ⟨g,1,none⟩=some (.string x1)∧W.cell? ⟨g,2,none⟩=some (.string x2)∧W.cell? ⟨g,3,none⟩=some (.string x3)∧W.cell? ⟨g,4,none⟩=some (.string x4)∧W.cell? ⟨g,5,none⟩=some (.string x5)):(W.alloc o).drew.cell? ⟨g,0,none⟩=some (.string x0)∧(W.alloc o).drew.cell? ⟨g,1,none⟩=some (.string x1)∧(W.alloc o).drew.cell? ⟨g,2,none⟩=some (.string x2)∧(W.alloc o).drew.cell? ⟨g,3,none⟩=some (.string x3)∧(W.alloc o).drew.cell? ⟨g,4,none⟩=some (.string x4)∧(W.alloc o).drew.cell? ⟨g,5,none⟩=some (.string x5):=al6 o h
theorem zba{W:World}{g:Nat}{x0 x1 x2 x3 x4 x5:ByteArray}(o o':Obj)(h:W.cell? ⟨g,0,none⟩=some (.string x0)∧W.cell? ⟨g,1,none⟩=some (.string x1)∧W.cell? ⟨g,2,none⟩=some (.string x2)∧W.cell? ⟨g,3,none⟩=some (.string x3)∧W.cell? ⟨g,4,none⟩=some (.string x4)∧W.cell? ⟨g,5,none⟩=some (.string x5)):((W.alloc o).alloc o').drew.cell? ⟨g,0,none⟩=some (.string x0)∧((W.alloc o).alloc o').drew.cell? ⟨g,1,none⟩=some (.string x1)∧((W.alloc o).alloc o').drew.cell? ⟨g,2,none⟩=some (.string x2)∧((W.alloc o).alloc o').drew.cell? ⟨g,3,none⟩=some (.string x3)∧((W.alloc o).alloc o').drew.cell? ⟨g,4,none⟩=some (.string x4)∧((W.alloc o).alloc o').drew.cell? ⟨g,5,none⟩=some (.string x5):=zbg o o' h
theorem zaq{w1 W:World}(h:Bxs w1 [] W)(t1 t2:TypeId)(a b c d:ByteArray):Bxs w1 [(W.heap.size+1,c,d),(W.heap.size,a,b)] ((W.alloc (.cells #[.string a,.string b] t1)).alloc (.cells #[.string c,.string d] t2)).drew:=by
 have h2:=qdc (qdc h t1 a b) t2 c d;rw[World.size_alloc] at h2;exact h2.later (Below.refl _ _).drew
theorem zbb{w1 W:World}(h:Bxs w1 [] W)(t1 t2:TypeId)(a b c d:ByteArray):Bxs w1 [(W.heap.size,c,d),(W.heap.size+1,a,b)] ((W.alloc (.cells #[.string c,.string d] t1)).alloc (.cells #[.string a,.string b] t2)).drew:=by
 have h2:=zaq h t1 t2 c d a b;exact⟨h2.1,fun r hr=>h2.2 r (by simp only[List.mem_cons,List.not_mem_nil,or_false] at hr ⊢;exact hr.symm)⟩
theorem q4h{a b:ByteArray}(h:a=b):(a.toList==b.toList)=true:=by rw[h];exact beq_self_eq_true _
theorem q7q{a b:ByteArray}(h:¬a=b):(a.toList==b.toList)=false:=beq_eq_false_iff_ne.2 fun e=>h (by rw[ByteArray.toList_eq,ByteArray.toList_eq] at e;exact ByteArray.ext (Array.toList_inj.1 e))
def zbc(w1:World)(ta tb tc td:ByteArray)(s7 s8:Value)(W:World):Prop:=∃g1 g2:Nat,s7 = .pointer (some ⟨g1,0,none⟩)∧s8 = .pointer (some ⟨g2,0,none⟩)∧Hid (Bxs w1 [(g2,tc,td),(g1,ta,tb)] W)
def q0w(a b c d:Rat)(n:Nat):Rat:=(if n/2=0 then a else b)*(if n % 2=0 then c else d)
theorem qvi{a b c d m:Rat}(h:m ∈ [a*c,a*d,b*c,b*d]):∃i,i<4∧q0w a b c d i=m:=by
 simp only[List.mem_cons,List.not_mem_nil,or_false] at h;rcases h with rfl|rfl|rfl|rfl
 ·exact⟨0,by decide,rfl⟩
 ·exact⟨1,by decide,rfl⟩
 ·exact⟨2,by decide,rfl⟩
 ·exact⟨3,by decide,rfl⟩
theorem q4i{P:Nat→Rat}{m:Rat}{n:Nat}{z:Int}(hz:0≤z):∀i,i<n→P i=m→1≤z+1:=fun _ _ _=>by omega
theorem q7r{P:Nat→Rat}{m:Rat}{n:Nat}{z:Int}(h:∀i,i<n→P i=m→1≤z)(hn:P n≠m):∀i,i<n+1→P i=m→1≤z:=fun i hi e=>by
 by_cases hin:i<n
 ·exact h i hin e
 ·obtain rfl:i=n:=by omega
  exact absurd e hn
theorem qsx{a b:Rat}(sa:sm a 6)(sb:sm b 6)(h:a≤b):qbf (rt a,rt b)=0:=by
 unfold qbf qcl;rw[qgh (qb8 sa (by decide)),qgh (qb8 sb (by decide)),qdh,qdh,if_neg (by decide),if_neg (by have:=qf0.2 h;omega)]
theorem qnb{q:Rat}{k:Nat}(h:sm q k)(hk:k≤1000:=by decide):(rt q).size≤1073741824:=by have:=qb5 h;omega
theorem q4j{a b c d e f:Rat}{k m:Nat}(sa:sm a k)(sb:sm b k)(sc:sm c k)(sd:sm d k)(se:sm e k)(sf:sm f k)(h1:a≤b)(h2:c≤d)(h3:e≤f)(hk:k+1≤m)(hm:m≤600):fsB [(rt a,rt b),(rt c,rt d),(rt e,rt f)] m=true:=by
 unfold fsB;simp only[List.all_cons,List.all_nil,qdh,qjq sa hk hm,qjq sb hk hm,qjq sc hk hm,qjq sd hk hm,qjq se hk hm,qjq sf hk hm,decide_eq_true h1,decide_eq_true h2,decide_eq_true h3,Bool.and_true]
theorem q9e{a b:Rat}{k m:Nat}(sa:sm a k)(sb:sm b k)(h1:a≤b)(hk:k+1≤m)(hm:m≤600):fsB [(rt a,rt b)] m=true:=by
 unfold fsB;simp only[List.all_cons,List.all_nil,qdh,qjq sa hk hm,qjq sb hk hm,decide_eq_true h1,Bool.and_true]
theorem qxk{ws:List Int}(h:∀x ∈ ws,wIn x=true)(h0:ws.sum≠0):qqr ws=0:=by
 unfold qqr;rw[if_pos (List.all_eq_true.2 h),if_neg h0]
theorem q61(ta tb tc td te tf:ByteArray)(k0 k1 k2 h0 h1 h2:Int)(w:World)(hg:GW w)(hf:fsB [(ta,tb),(tc,td),(te,tf)] 6=false):Calls Tryz.prog 3 #[.agg #[.string ta,.string tb,.string tc,.string td,.string te,.string tf],.agg #[.int .u8 k0,.int .u8 k1,.int .u8 k2],.agg #[.int .u8 h0,.int .u8 h1,.int .u8 h2]] w fun e w'=>e = .returned (.bool true)∧Below w.heap.size w w':=by
 obtain⟨hb0,-⟩:=ql8 w ta tb tc td te tf k0 k1 k2 h0 h1 h2;have J:=qu6 (hg.later hb0);have HAW:=hid (qgw J);have QFS:=qbo J fun W hW _=>qgx _ _ 3 6 W ((qvh w ta tb tc td te tf k0 k1 k2 h0 h1 h2).later hW) (by decide) (by decide) (by decide);rw[hf,Bool.and_false] at QFS;have HFS:=hid QFS;have HB:=hid (Below.refl (qsw w ta tb tc td te tf k0 k1 k2 h0 h1 h2).heap.size (qsw w ta tb tc td te tf k0 k1 k2 h0 h1 h2));have HB0:=hid hb0;clear QFS hb0 hf J hg;go_enter Tryz.func3,Tryz.ntmps3;go_wp2_with fail;refine kgo HAW.out HB fun wN HB => ?_;go_wp2_with fail;refine kgo HFS.out HB fun wN HB => ?_;clear HFS;go_wp2_with fail;refine kgo HAW.out HB fun wN HB => ?_;clear HAW;go_wp2_with fail;go_ret;exact⟨rfl,HB0.out.trans (HB.out.mono HB0.out.size)⟩
theorem q62(a b c d e f:Rat)(n0 n1 n2 m0 m1 m2:Nat)(w:World)(hg:GW w)(b0:n0<256)(b1:n1<256)(b2:n2<256)(q0:m0<256)(q1:m1<256)(q2:m2<256)(sa:sm a 6)(sb:sm b 6)(sc:sm c 6)(sd:sm d 6)(se:sm e 6)(sf:sm f 6)(hab:a≤b)(hcd:c≤d)(hef:e≤f)(hfs:fsB [(rt a,rt b),(rt c,rt d),(rt e,rt f)] 6=true):
  Calls Tryz.prog 3 #[.agg #[.string (rt a),.string (rt b),.string (rt c),.string (rt d),.string (rt e),.string (rt f)],.agg #[.int .u8 (n0:Int),.int .u8 (n1:Int),.int .u8 (n2:Int)],.agg #[.int .u8 (m0:Int),.int .u8 (m1:Int),.int .u8 (m2:Int)]] w fun e w'=>e = .returned (.bool true)∧Below w.heap.size w w':=by
 have hb0:=(ql8 w (rt a) (rt b) (rt c) (rt d) (rt e) (rt f) (n0:Int) (n1:Int) (n2:Int) (m0:Int) (m1:Int) (m2:Int)).1;have HSZ0:=hid (ql8 w (rt a) (rt b) (rt c) (rt d) (rt e) (rt f) (n0:Int) (n1:Int) (n2:Int) (m0:Int) (m1:Int) (m2:Int)).2;have HCE:=hid (qvg w (rt a) (rt b) (rt c) (rt d) (rt e) (rt f) (n0:Int) (n1:Int) (n2:Int) (m0:Int) (m1:Int) (m2:Int));have hsv:=qvh w (rt a) (rt b) (rt c) (rt d) (rt e) (rt f) (n0:Int) (n1:Int) (n2:Int) (m0:Int) (m1:Int) (m2:Int);obtain⟨w1,hw1⟩:∃w1,w1=qsw w (rt a) (rt b) (rt c) (rt d) (rt e) (rt f) (n0:Int) (n1:Int) (n2:Int) (m0:Int) (m1:Int) (m2:Int):=⟨_,rfl⟩;rw[←hw1] at hb0 HCE hsv HSZ0;have HSZ:=HSZ0;clear HSZ0;have hg1:=hg.later hb0;have J:=qsq hg1;have HAW:=hid fun L=>qgw (J L);have QFS:=fun L=>qbo (J L) fun W hW _=>qgx _ _ 3 6 W (hsv.later hW.1) (by decide) (by decide) (by decide);rw[hfs] at QFS;have HFS:Hid (∀L:List (Nat × ByteArray × ByteArray),qgv (Bxs w1 L) 6 #[.slice (some ⟨w.heap.size,0,none⟩) 3 3,.int .i64 3,.int .i64 6] (.bool true)):=hid QFS;have hx:=qss n0 hab;have hy:=qss n1 hcd;have hz:=qss n2 hef;have sx:=qxh n0 sa sb;have sy:=qxh n1 sc sd;have sz:=qxh n2 se sf;have HBT1:=hid fun L=>qgg (J L) fun W=>qsv a b n0 W b0 sa sb;have HBT2:=hid fun L=>qgg (J L) fun W=>qsv c d n1 W b1 sc sd;have HBT3:=hid fun I (JI:Inv I)=>qgg JI fun W=>qsv e f n2 W b2 se sf;have ea:=qsx sa sb hab;have eb:=qsx sc sd hcd;have ee:=qsx se sf hef;have hc:qad [qbf (rt a,rt b),qbf (rt c,rt d)]=0:=by rw[ea,eb];rfl
 have za:=qnb sa;have zb:=qnb sb;have zc:=qnb sc;have zd:=qnb sd;have ze:=qnb se;have zf:=qnb sf;have QADD:=qm8 hg1 hc fun W hW=>qvc (rt a,rt b) (rt c,rt d) W hW ⟨za,zb⟩ ⟨zc,zd⟩;have QSUB:=qm8 hg1 hc fun W hW=>qvd (rt a,rt b) (rt c,rt d) W hW ⟨za,zb⟩ ⟨zc,zd⟩;have QMUL:=qm8 hg1 hc fun W hW=>qnn (rt a,rt b) (rt c,rt d) W hW ⟨za,zb⟩ ⟨zc,zd⟩;have e1:spQ (rt a,rt b)=(a,b):=by unfold spQ;rw[qdh,qdh]
 have e2:spQ (rt c,rt d)=(c,d):=by unfold spQ;rw[qdh,qdh]
 have e3:spQ (rt e,rt f)=(e,f):=by unfold spQ;rw[qdh,qdh]
 rw[e1,e2] at QADD QSUB QMUL
 have hall:∀q ∈ [a*c,a*d,b*c,b*d],sm q 12:=fun q hq=>by
  simp only[List.mem_cons,List.not_mem_nil,or_false] at hq;rcases hq with rfl|rfl|rfl|rfl
  ·exact qkl sa sc
  ·exact qkl sa sd
  ·exact qkl sb sc
  ·exact qkl sb sd
 have smi:sm (qiv [a*c,a*d,b*c,b*d]) 12:=hall _ (qr4 _ (by simp));have sma:sm (qih [a*c,a*d,b*c,b*d]) 12:=hall _ (qr5 _ (by simp));obtain⟨o1,o2,o3⟩:=qis (qkk sa sc) (qkk sb sd) (by decide);obtain⟨o4,o5,o6⟩:=qis (qkm sa sd) (qkm sb sc) (by decide);obtain⟨o7,o8,o9⟩:=qis smi sma (by decide);rw[o1,o2,o3] at QADD;rw[o4,o5,o6] at QSUB;rw[o7,o8,o9] at QMUL;have HADD:Hid (∀L:List (Nat × ByteArray × ByteArray),qgv (Bxs w1 L) 8 #[.agg #[.string (rt a),.string (rt b)],.agg #[.string (rt c),.string (rt d)]] (.tuple #[.agg #[.string (rt (a+c)),.string (rt (b+d))],.int .i64 0])):=hid QADD;have HSUB:Hid (∀L:List (Nat × ByteArray × ByteArray),qgv (Bxs w1 L) 9 #[.agg #[.string (rt a),.string (rt b)],.agg #[.string (rt c),.string (rt d)]] (.tuple #[.agg #[.string (rt (a-d)),.string (rt (b-c))],.int .i64 0])):=hid QSUB;have HMUL:Hid (∀L:List (Nat × ByteArray × ByteArray),qgv (Bxs w1 L) 10 #[.agg #[.string (rt a),.string (rt b)],.agg #[.string (rt c),.string (rt d)]] (.tuple #[.agg #[.string (rt (qiv [a*c,a*d,b*c,b*d])),.string (rt (qih [a*c,a*d,b*c,b*d]))],.int .i64 0])):=hid QMUL;clear QADD QSUB QMUL o1 o2 o3 o4 o5 o6 o7 o8 o9 hc hall;have hmw:=q0u hx.1 hx.2 hy.1 hy.2;have hmm:=qm9 [a*c,a*d,b*c,b*d] (a*c) (by simp);have hmx:=qna [a*c,a*d,b*c,b*d] (a*c) (by simp)
 have HF3:Hid (∀(L:List (Nat × ByteArray × ByteArray)) (W:World),Bxs w1 L W→Calls Tryz.prog 6 #[.slice (some ⟨W.heap.size,0,none⟩) 3 3,.int .i64 3,.int .i64 30] (W.alloc (.cells #[.string (rt (a+c)),.string (rt (b+d)),.string (rt (a-d)),.string (rt (b-c)),.string (rt (qiv [a*c,a*d,b*c,b*d])),.string (rt (qih [a*c,a*d,b*c,b*d]))] 24)) fun e w'=>e = .returned (.bool true)∧Hid (Bxs w1 L w')):=hid fun L W hW=>
  (qgx _ _ 3 30 _ (qxi W _ _ _ _ _ _ 24) (by decide) (by decide) (by decide)).mono fun _ _ ⟨h1,h2⟩=>⟨by
   rw[h1,q4j (qkk sa sc) (qkk sb sd) (qbw (qkm sa sd) (by decide)) (qbw (qkm sb sc) (by decide)) (qbw smi (by decide)) (qbw sma (by decide)) (by grind) (by grind) (by grind) (by decide) (by decide)]
   rfl,hid ((hW.later ((Below.refl _ _).alloc (Nat.le_refl _) _)).later h2)⟩
 have HO1:=hid fun L=>qgg (J L) fun W=>qur _ _ 21 W sx sy (by decide);have HO2:=hid fun L=>qgg (J L) fun W=>qyk _ _ 21 W sx sy (by decide);have HO3:=hid fun L=>qgg (J L) fun W=>qus _ _ 21 W sx sy (by decide);have HI1:=hid fun L=>qbo (J L) fun W _ _=>qhg (qbx a b n0+qbx c d n1) (a+c) (b+d) 43 W (qkk sx sy) (qbw (qkk sa sc) (by decide)) (qbw (qkk sb sd) (by decide)) (by decide) (by grind) (by grind);have HI2:=hid fun L=>qbo (J L) fun W _ _=>qhg (qbx a b n0-qbx c d n1) (a-d) (b-c) 43 W (qkm sx sy) (qbw (qkm sa sd) (by decide)) (qbw (qkm sb sc) (by decide)) (by decide) (by grind) (by grind);have HI3:=hid fun L=>qbo (J L) fun W _ _=>qhg (qbx a b n0*qbx c d n1) (qiv [a*c,a*d,b*c,b*d]) (qih [a*c,a*d,b*c,b*d]) 43 W (qbw (qkl sx sy) (by decide)) (qbw smi (by decide)) (qbw sma (by decide)) (by decide) hmw.1 hmw.2
 have HMU:Hid (∀k m:Nat,k<2→m<2→∀L:List (Nat × ByteArray × ByteArray),qgv (Bxs w1 L) 14 #[.string (if k=0 then rt a else rt b),.string (if m=0 then rt c else rt d)] (.string (rt (q0w a b c d (2*k+m))))):=hid fun k m hk hm L=>by
  have i1:(2*k+m)/2=k:=by omega
  have i2:(2*k+m) % 2=m:=by omega
  unfold q0w;rw[i1,i2,←apply_ite rt,←apply_ite rt];exact qgg (J L) fun W=>qus _ _ 6 W (by split<;>assumption) (by split<;>assumption) (by decide)
 have HPI:Hid (∃i,i<4∧q0w a b c d i=qiv [a*c,a*d,b*c,b*d]):=hid (qvi (qr4 _ (by simp)));have HPA:Hid (∃i,i<4∧q0w a b c d i=qih [a*c,a*d,b*c,b*d]):=hid (qvi (qr5 _ (by simp)));have HO4:=hid fun L=>qgg (J L) fun W=>qur a c 6 W sa sc (by decide);have HO5:=hid fun L=>qgg (J L) fun W=>qyk b c 6 W sb sc (by decide);obtain⟨ws,hws⟩:∃ws:List Int,ws=[(m0:Int),(m1:Int),1+(m2:Int)]:=⟨_,rfl⟩
 have hwi:∀x ∈ ws,wIn x=true:=fun x hx=>by
  rw[hws] at hx;simp only[List.mem_cons,List.not_mem_nil,or_false] at hx;rw[qh6];omega
 have hsum:ws.sum=(m0:Int)+(m1+(1+m2)):=by rw[hws];simp
 have hsum0:ws.sum≠0:=by omega
 have ssum:sm ((ws.sum:Int):Rat) 3:=⟨by show ws.sum.natAbs<10^3;omega,by show 1<10^3;decide⟩;have sacc:∀rs:List Rat,∀j:Nat,(∀r ∈ rs,sm r j)→1≤j→sm (qsu rs ws 3/((ws.sum:Int):Rat)) ((j+10)*3+1+3):=fun rs j hr hj=>q98 (qxg hr hwi hj 3) ssum hsum0;have sm1:sm (qhx [(a,b),(c,d),(e,f)] ws).1 52:=sacc [a,c,e] 6 (by simp only[List.mem_cons,List.not_mem_nil,or_false];rintro r (rfl|rfl|rfl)<;>assumption) (by decide);have sm2:sm (qhx [(a,b),(c,d),(e,f)] ws).2 52:=sacc [b,d,f] 6 (by simp only[List.mem_cons,List.not_mem_nil,or_false];rintro r (rfl|rfl|rfl)<;>assumption) (by decide);have smr:sm (qsu [qbx a b n0,qbx c d n1,qbx e f n2] ws 3/((ws.sum:Int):Rat)) 97:=sacc _ 21 (by simp only[List.mem_cons,List.not_mem_nil,or_false];rintro r (rfl|rfl|rfl)<;>assumption) (by decide)
 have hmean:(qhx [(a,b),(c,d),(e,f)] ws).1≤qsu [qbx a b n0,qbx c d n1,qbx e f n2] ws 3/((ws.sum:Int):Rat)∧qsu [qbx a b n0,qbx c d n1,qbx e f n2] ws 3/((ws.sum:Int):Rat)≤(qhx [(a,b),(c,d),(e,f)] ws).2:=by
  rw[hws];exact qxf (m0:Int) (m1:Int) (1+(m2:Int)) hx hy hz (by omega) (by omega) (by omega)
 have hmle:(qhx [(a,b),(c,d),(e,f)] ws).1≤(qhx [(a,b),(c,d),(e,f)] ws).2:=Rat.le_trans hmean.1 hmean.2
 have herr:qk3 [(rt a,rt b),(rt c,rt d),(rt e,rt f)] ws=0:=by
  unfold qk3
  have h1:qbc [(rt a,rt b),(rt c,rt d),(rt e,rt f)]=0:=by
   unfold qbc;rw[if_neg (by simp),if_neg (by simp)];show qad [qbf (rt a,rt b),qbf (rt c,rt d),qbf (rt e,rt f)]=0;rw[ea,eb,ee];rfl
  rw[h1,if_neg (by simp),if_neg (by rw[hws];simp)];exact qxk hwi hsum0
 have HME:Hid (∀(L:List (Nat × ByteArray × ByteArray)) (W:World),Bxs w1 L W→Calls Tryz.prog 15 #[.slice (some ⟨w.heap.size,0,none⟩) 3 3,.slice (some ⟨W.heap.size,0,none⟩) 3 3] (W.alloc (.cells #[.int .i64 (m0:Int),.int .i64 (m1:Int),.int .i64 (1+(m2:Int))] 3)) fun r w'=>r = .returned (.tuple #[.agg #[.string (rt (qhx [(a,b),(c,d),(e,f)] ws).1),.string (rt (qhx [(a,b),(c,d),(e,f)] ws).2)],.int .i64 0])∧Hid (BxI w1 W.heap.size ws L w')):=hid fun L W hW=>by
  have hW2:=hW.later ((Below.refl _ _).alloc (Nat.le_refl _) (.cells #[.int .i64 (m0:Int),.int .i64 (m1:Int),.int .i64 (1+(m2:Int))] 3));have hin:=q0v W (m0:Int) (m1:Int) (1+(m2:Int)) 3;rw[←hws] at hin;refine(q2l _ _ _ _ _ (hg1.later hW2.1) (hsv.later hW2.1) hin (fun s hs => ?_) herr).mono fun e' w' h => ?_
  ·simp only[List.mem_cons,List.not_mem_nil,or_false] at hs
   rcases hs with rfl|rfl|rfl
   ·exact⟨za,zb⟩
   ·exact⟨zc,zd⟩
   ·exact⟨ze,zf⟩
  ·unfold qt8 at h
   rw[if_neg (by rw[herr];simp)] at h;have em:[(rt a,rt b),(rt c,rt d),(rt e,rt f)].map spQ=[(a,b),(c,d),(e,f)]:=by rw[List.map_cons,List.map_cons,List.map_cons,List.map_nil,e1,e2,e3]
   rw[em] at h;obtain⟨h1,h2⟩:=qjp h;obtain⟨o1,o2,o3⟩:=qis sm1 sm2 (by decide);rw[o1,o2,o3] at h1;exact⟨h1,hid ⟨hW2.later h2,hin.later h2⟩⟩
 have HF1:Hid (∀(g:Nat) (L:List (Nat × ByteArray × ByteArray)) (W:World),BxI w1 g ws L W→Calls Tryz.prog 6 #[.slice (some ⟨W.heap.size,0,none⟩) 1 1,.int .i64 1,.int .i64 60] (W.alloc (.cells #[.string (rt (qhx [(a,b),(c,d),(e,f)] ws).1),.string (rt (qhx [(a,b),(c,d),(e,f)] ws).2)] 24)) fun e w'=>e = .returned (.bool true)∧Hid (BxI w1 g ws L w')):=hid fun g L W hW=>
  (qgx _ _ 1 60 _ (q4e W _ _ 24) (by decide) (by decide) (by decide)).mono fun _ _ ⟨h1,h2⟩=>⟨by
   rw[h1,q9e sm1 sm2 hmle (by decide) (by decide)]
   rfl,hid ((hW.later ((Below.refl _ _).alloc (Nat.le_refl _) _)).later h2)⟩
 have HMR:Hid (∀(g:Nat) (L:List (Nat × ByteArray × ByteArray)) (W:World),BxI w1 g ws L W→Calls Tryz.prog 16 #[.slice (some ⟨W.heap.size,0,none⟩) 3 3,.slice (some ⟨g,0,none⟩) 3 3] (W.alloc (.cells #[.string (rt (qbx a b n0)),.string (rt (qbx c d n1)),.string (rt (qbx e f n2))] 22)) fun r w'=>r = .returned (.string (rt (qsu [qbx a b n0,qbx c d n1,qbx e f n2] ws 3/((ws.sum:Int):Rat))))∧BxI w1 g ws L w'):=hid fun g L W hW=>by
  have hal:=(Below.refl W.heap.size W).alloc (Nat.le_refl _) (.cells #[.string (rt (qbx a b n0)),.string (rt (qbx c d n1)),.string (rt (qbx e f n2))] 22);refine(q60 _ _ [qbx a b n0,qbx c d n1,qbx e f n2] ws 21 _ (qxj W _ _ _ 22) (hW.later hal).2 (by rw[hws];rfl) (by simp) (by decide) (by decide) ?_ hwi hsum0).mono fun e' w' h=>⟨h.1,(hW.later hal).later h.2⟩;simp only[List.mem_cons,List.not_mem_nil,or_false];rintro r (rfl|rfl|rfl)<;>assumption
 have HI4:=hid fun g L=>qbo (q4f hg1 g ws L) fun W _ _=>qhg (qsu [qbx a b n0,qbx c d n1,qbx e f n2] ws 3/((ws.sum:Int):Rat)) (qhx [(a,b),(c,d),(e,f)] ws).1 (qhx [(a,b),(c,d),(e,f)] ws).2 97 W smr (qbw sm1 (by decide)) (qbw sm2 (by decide)) (by decide) hmean.1 hmean.2;have HIV:=hid fun g L=>q4f hg1 g ws L;have HB0:=hid hb0;have i0:(0:Int)≤(m0:Int):=by omega
 have i1:(m0:Int)≤255:=by omega
 have i2:(0:Int)≤(m1:Int):=by omega
 have i3:(m1:Int)≤255:=by omega
 have i4:(0:Int)≤(m2:Int):=by omega
 have i5:(m2:Int)≤255:=by omega
 obtain⟨P,hP⟩:∃P,P=q0w a b c d:=⟨_,rfl⟩;rw[←hP] at HMU HPI HPA;clear hP hws hwi hsum hsum0 ssum sacc sm1 sm2 smr hmean hmle herr hg1 J hsv hfs QFS hx hy hz sx sy sz ea eb ee za zb zc zd ze zf e1 e2 e3 smi sma hmw hmm hmx hb0 b0 b1 b2 q0 q1 q2 sa sb sc sd se sf hab hcd hef hg;unfold qsw at hw1;generalize rt (qsu [qbx a b n0,qbx c d n1,qbx e f n2] ws 3/((ws.sum:Int):Rat))=tr at *;generalize rt (qhx [(a,b),(c,d),(e,f)] ws).1=mm1 at *;generalize rt (qhx [(a,b),(c,d),(e,f)] ws).2=mm2 at *;generalize rt (qbx a b n0+qbx c d n1)=u1 at *;generalize rt (qbx a b n0-qbx c d n1)=u2 at *;generalize rt (qbx a b n0*qbx c d n1)=u3 at *;generalize rt (qbx a b n0)=tx at *;generalize rt (qbx c d n1)=ty at *;generalize rt (qbx e f n2)=tz at *;generalize qiv [a*c,a*d,b*c,b*d]=mi at *;generalize qih [a*c,a*d,b*c,b*d]=ma at *;generalize rt (a+c)=s1 at *;generalize rt (b+d)=s2 at *;generalize rt (a-d)=d1 at *;generalize rt (b-c)=d2 at *;generalize rt a=ta at *;generalize rt b=tb at *;generalize rt c=tc at *;generalize rt d=td at *;generalize rt e=te at *;generalize rt f=tf at *;generalize (n0:Int)=k0 at *;generalize (n1:Int)=k1 at *;generalize (n2:Int)=k2 at *;generalize (m0:Int)=h0 at *;generalize (m1:Int)=h1 at *;generalize (m2:Int)=h2 at *;generalize hp1:rt mi=p1 at *;generalize hp2:rt ma=p2 at *;have HP1:=hid hp1;have HP2:=hid hp2;have HB:Hid (Bxs w1 [] (((w.alloc (.cells #[.string ta,.string tb,.string tc,.string td,.string te,.string tf] 25)).alloc (.cells #[.int .u8 k0,.int .u8 k1,.int .u8 k2] 26)).alloc (.cells #[.int .u8 h0,.int .u8 h1,.int .u8 h2] 26))):=hid (by rw[←hw1];exact⟨Below.refl _ _,fun r hr=>by cases hr⟩);clear hw1 hp1 hp2;go_enter Tryz.func3,Tryz.ntmps3;go_wp2_with fail;refine kgo (HAW.out _) HB fun wN HB => ?_;clear HAW;go_wp2_with fail
 refine kgo (HFS.out _) HB fun wN HB => ?_;clear HFS
 go_upto_region 3 with fail
 go_cut [7,8] (fun s7 s8 wx=>zbc w1 ta tb tc td s7 s8 wx)
 case first=>
  have HBc:=hid (HB.out.later (Below.refl _ _).drew);have hz1:w.heap.size<wN.heap.size:=by have h1:w1.heap.size≤wN.heap.size:=HBc.out.1.size;have h2:=HSZ.out;omega
  have eZ:=(HCE.out _ HBc.out.1).1;have eN:=(HCE.out _ HB.out.1).1
  go_region_held3 (fun W=>W.cell? ⟨w.heap.size,0,none⟩=some (.string ta)∧W.cell? ⟨w.heap.size,1,none⟩=some (.string tb)∧W.cell? ⟨w.heap.size,2,none⟩=some (.string tc)∧W.cell? ⟨w.heap.size,3,none⟩=some (.string td)∧W.cell? ⟨w.heap.size,4,none⟩=some (.string te)∧W.cell? ⟨w.heap.size,5,none⟩=some (.string tf)) (first|exact eZ|exact zbk _ eN|exact zba _ _ eN|exact al6 _ eN|exact zbg _ _ eN) (fail)
  all_goals(go_wp2_with fail;go_meet)
  all_goals first
   | exact⟨wN.heap.size,wN.heap.size+1,rfl,rfl,hid (zaq HB.out _ _ _ _ _ _)⟩
   | exact⟨wN.heap.size+1,wN.heap.size,rfl,rfl,hid (zbb HB.out _ _ _ _ _ _)⟩
 case rest=>
 obtain⟨g1,g2,rfl,rfl,HB⟩:=hcut
 go_upto_region 4 with fail
 go_cut [9,10] (fun s9 s10 wx=>s9 = .string tx∧s10 = .string ty∧Hid (Bxs w1 [(g2,tc,td),(g1,ta,tb)] wx))
 case first=>
  have HBc:=hid (HB.out.later (Below.refl _ _).drew);have QB1:=qb2 (I:=Bxs w1 [(g2,tc,td),(g1,ta,tb)]) (HBT1.out _);have QB2:=qb2 (I:=Bxs w1 [(g2,tc,td),(g1,ta,tb)]) (HBT2.out _)
  have HC4:Hid (∀W,Bxs w1 [(g2,tc,td),(g1,ta,tb)] W→W.cell? ⟨g2,0,none⟩=some (.string tc)∧W.cell? ⟨g2,1,none⟩=some (.string td)∧W.cell? ⟨g1,0,none⟩=some (.string ta)∧W.cell? ⟨g1,1,none⟩=some (.string tb)∧W.cell? ⟨w.heap.size+1,0,none⟩=some (.int .u8 k0)∧W.cell? ⟨w.heap.size+1,1,none⟩=some (.int .u8 k1)):=hid fun W hW=>by
   obtain⟨e0,e1,e2,e3,-⟩:=qcg hW;obtain⟨-,⟨f0,f1,-⟩,-⟩:=HCE.out _ hW.1;exact⟨e0,e1,e2,e3,f0,f1⟩
  have eZ:=HC4.out _ HBc.out
  go_region_held3 (fun W=>W.cell? ⟨g2,0,none⟩=some (.string tc)∧W.cell? ⟨g2,1,none⟩=some (.string td)∧W.cell? ⟨g1,0,none⟩=some (.string ta)∧W.cell? ⟨g1,1,none⟩=some (.string tb)∧W.cell? ⟨w.heap.size+1,0,none⟩=some (.int .u8 k0)∧W.cell? ⟨w.heap.size+1,1,none⟩=some (.int .u8 k1)) (exact HC4.out _ HBc.out)
   ((go_at_call 7;first
    | ((with_reducible refine(QB1.out _ HBc.out).mono ?_);rintro e wA ⟨rfl,hb⟩;have HBc:=hid hb;clear hb)
    | ((with_reducible refine(QB2.out _ HBc.out).mono ?_);rintro e wA ⟨rfl,hb⟩;have HBc:=hid hb;clear hb)))
  all_goals(go_wp2_with fail;go_meet;exact⟨rfl,rfl,HBc⟩)
 case rest=>
 obtain⟨rfl,rfl,HB⟩:=hcut;clear HBT1 HBT2;obtain⟨c0,c1,c2,c3,-⟩:=qcg HB.out;go_wp2_with fail;refine kgo (HADD.out _) HB fun wS HB2 => ?_;clear c0 c1 c2 c3 HADD HB;have HB:=hid (qdc HB2.out 24 s1 s2);clear HB2;obtain⟨-,-,c0,c1,c2,c3,-⟩:=qcg HB.out;go_wp2_with fail;refine kgo (HSUB.out _) HB fun wD HB2 => ?_;clear c0 c1 c2 c3 HSUB HB;have HB:=hid (qdc HB2.out 24 d1 d2);clear HB2;obtain⟨-,-,-,-,c0,c1,c2,c3,-⟩:=qcg HB.out;go_wp2_with fail;refine kgo (HMUL.out _) HB fun wP HB2 => ?_;clear c0 c1 c2 c3 HMUL HB;have HB:=hid (qdc HB2.out 24 p1 p2);clear HB2;have Q3:=HF3.out _ _ HB.out;rw[World.size_alloc] at Q3;have HQ3:=hid Q3;clear Q3 HF3;have hcd:=bx5 HB.out;go_wp2_with fail;refine HQ3.out.mono ?_;clear HQ3 hcd HB;rintro e wF ⟨rfl,HB⟩;have hcd:=bx5 HB.out;go_wp2_with fail;clear hcd;have HBc:Hid (Bxs w1 [(wP.heap.size,p1,p2),(wD.heap.size,d1,d2),(wS.heap.size,s1,s2),(g2,tc,td),(g1,ta,tb)] wF.drew):=hid (HB.out.later (Below.refl _ _).drew);have eZ:=bx5 HBc.out;have QO1:=qb2 (I:=Bxs w1 [(wP.heap.size,p1,p2),(wD.heap.size,d1,d2),(wS.heap.size,s1,s2),(g2,tc,td),(g1,ta,tb)]) (HO1.out _);have QO2:=qb2 (I:=Bxs w1 [(wP.heap.size,p1,p2),(wD.heap.size,d1,d2),(wS.heap.size,s1,s2),(g2,tc,td),(g1,ta,tb)]) (HO2.out _);have QO3:=qb2 (I:=Bxs w1 [(wP.heap.size,p1,p2),(wD.heap.size,d1,d2),(wS.heap.size,s1,s2),(g2,tc,td),(g1,ta,tb)]) (HO3.out _);have QI1:=qb2 (I:=Bxs w1 [(wP.heap.size,p1,p2),(wD.heap.size,d1,d2),(wS.heap.size,s1,s2),(g2,tc,td),(g1,ta,tb)]) (HI1.out _);have QI2:=qb2 (I:=Bxs w1 [(wP.heap.size,p1,p2),(wD.heap.size,d1,d2),(wS.heap.size,s1,s2),(g2,tc,td),(g1,ta,tb)]) (HI2.out _);have QI3:=qb2 (I:=Bxs w1 [(wP.heap.size,p1,p2),(wD.heap.size,d1,d2),(wS.heap.size,s1,s2),(g2,tc,td),(g1,ta,tb)]) (HI3.out _);clear HO1 HO2 HO3 HI1 HI2 HI3 HB
 go_region_held3 (fun W=>W.cell? ⟨wP.heap.size,0,none⟩=some (.string p1)∧W.cell? ⟨wP.heap.size,1,none⟩=some (.string p2)∧W.cell? ⟨wD.heap.size,0,none⟩=some (.string d1)∧W.cell? ⟨wD.heap.size,1,none⟩=some (.string d2)∧W.cell? ⟨wS.heap.size,0,none⟩=some (.string s1)∧W.cell? ⟨wS.heap.size,1,none⟩=some (.string s2)∧W.cell? ⟨g2,0,none⟩=some (.string tc)∧W.cell? ⟨g2,1,none⟩=some (.string td)∧W.cell? ⟨g1,0,none⟩=some (.string ta)∧W.cell? ⟨g1,1,none⟩=some (.string tb)) (exact bx5 HBc.out)
  (first
   | (go_at_call 12;(with_reducible refine(QO1.out _ HBc.out).mono ?_);rintro e wA ⟨rfl,hb⟩;have HBc:=hid hb;clear hb)
   | (go_at_call 13;(with_reducible refine(QO2.out _ HBc.out).mono ?_);rintro e wA ⟨rfl,hb⟩;have HBc:=hid hb;clear hb)
   | (go_at_call 14;(with_reducible refine(QO3.out _ HBc.out).mono ?_);rintro e wA ⟨rfl,hb⟩;have HBc:=hid hb;clear hb)
   | (go_at_call 11;first
    | ((with_reducible refine(QI1.out _ HBc.out).mono ?_);rintro e wA ⟨rfl,hb⟩;have HBc:=hid hb;clear hb)
    | ((with_reducible refine(QI2.out _ HBc.out).mono ?_);rintro e wA ⟨rfl,hb⟩;have HBc:=hid hb;clear hb)
    | ((with_reducible refine(QI3.out _ HBc.out).mono ?_);rintro e wX ⟨rfl,hb⟩;have HBc:=hid hb;clear hb)))
 clear QO1 QO2 QO3 QI1 QI2 QI3;obtain⟨-,-,-,-,-,-,-,-,c0,c1,-⟩:=qcg HBc.out;have HBL:=hid (qdc HBc.out 22 ta tb);go_wp2_with fail;clear c0 c1
 go_loopw [17,18,107] (fun lo hi i wr=>∃k:Nat,k≤2∧i = .int .i64 k∧(∃z:Int,lo = .int .i64 z∧0≤z∧z≤2*k∧Hid (∀i,i<2*k→P i=mi→1≤z))∧(∃y:Int,hi = .int .i64 y∧0≤y∧y≤2*k∧Hid (∀i,i<2*k→P i=ma→1≤y))∧Hid (Bxs w1 ((wX.heap.size,ta,tb)::[(wP.heap.size,p1,p2),(wD.heap.size,d1,d2),(wS.heap.size,s1,s2),(g2,tc,td),(g1,ta,tb)]) wr)) (fun _ _ i _=>2-(intOf i).toNat)
 case atStart=>exact⟨0,by omega,rfl,⟨0,rfl,by omega,by omega,hid (fun i hi=>by omega)⟩,⟨0,rfl,by omega,by omega,hid (fun i hi=>by omega)⟩,HBL⟩
 case round=>
  obtain⟨k,hk,rfl,⟨z,rfl,hz0,hz1,HZ⟩,⟨y,rfl,hy0,hy1,HY⟩,HB⟩:=hrel;by_cases hlt:k<2
  ·have eU:wr.cell? ⟨wX.heap.size,k,none⟩=some (.string (if k=0 then ta else tb)):=by
    obtain⟨e0,e1,-⟩:=qcg HB.out;have hk2:k=0∨k=1:=by omega
    rcases hk2 with rfl|rfl
    ·exact e0
    ·exact e1
   have HMK:=hid fun m hm L=>HMU.out k m hlt hm L;obtain⟨tu,htu⟩:∃t,t=if k=0 then ta else tb:=⟨_,rfl⟩
   rw[←htu] at eU HMK;obtain⟨-,-,-,-,-,-,-,-,f0,f1,-⟩:=qcg HB.out;have HBI:=hid (qdc HB.out 22 tc td);have hi0:(0:Int)≤(k:Int):=by omega
   have hi1:(k:Int)<2:=by omega
   clear htu;go_wp2_with fail;clear eU f0 f1;generalize wr.heap.size=gV at *
   go_loopw [17,18,117] (fun lo hi i wt=>∃m:Nat,m≤2∧i = .int .i64 m∧(∃z:Int,lo = .int .i64 z∧0≤z∧z≤2*k+m∧Hid (∀i,i<2*k+m→P i=mi→1≤z))∧(∃y:Int,hi = .int .i64 y∧0≤y∧y≤2*k+m∧Hid (∀i,i<2*k+m→P i=ma→1≤y))∧Hid (Bxs w1 ((gV,tc,td)::(wX.heap.size,ta,tb)::[(wP.heap.size,p1,p2),(wD.heap.size,d1,d2),(wS.heap.size,s1,s2),(g2,tc,td),(g1,ta,tb)]) wt)) (fun _ _ i _=>2-(intOf i).toNat)
   case atStart=>exact⟨0,by omega,rfl,⟨z,rfl,hz0,by omega,HZ⟩,⟨y,rfl,hy0,by omega,HY⟩,HBI⟩
   case round=>
    clear HB HBI HBL HZ HY hz0 hz1 hy0 hy1;obtain⟨m,hm,rfl,⟨z',rfl,hz0,hz1,HZ⟩,⟨y',rfl,hy0,hy1,HY⟩,HB⟩:=hrel;by_cases hlt2:m<2
    ·have eV:wr.cell? ⟨gV,m,none⟩=some (.string (if m=0 then tc else td)):=by
      obtain⟨e0,e1,-⟩:=qcg HB.out;have hk2:m=0∨m=1:=by omega
      rcases hk2 with rfl|rfl
      ·exact e0
      ·exact e1
     have HMM:=hid fun L=>HMK.out m hlt2 L;obtain⟨tv,htv⟩:∃t,t=if m=0 then tc else td:=⟨_,rfl⟩
     obtain⟨tp,htp⟩:∃t,t=rt (P (2*k+m)):=⟨_,rfl⟩;rw[←htv] at eV HMM;rw[←htp] at HMM;have HNI:Hid (tp≠p1→P (2*k+m)≠mi):=hid fun h e=>h (by rw[htp,e,HP1.out]);have HNA:Hid (tp≠p2→P (2*k+m)≠ma):=hid fun h e=>h (by rw[htp,e,HP2.out]);have hj0:(0:Int)≤(m:Int):=by omega
     have hj1:(m:Int)<2:=by omega
     clear htv htp HMK;go_wp2_with fail;refine kgo (HMM.out _) HB fun wM HB => ?_;clear eV;obtain⟨-,-,-,-,f0,f1,-⟩:=qcg HB.out;by_cases x1:tp=p1
     all_goals
      by_cases x2:tp=p2
     all_goals
      first|(have y1:=q4h x1)|(have y1:=q7q x1)
      first|(have y2:=q4h x2)|(have y2:=q7q x2)
      have X1:=hid x1;have X2:=hid x2;clear x1 x2;go_wp2_with fail;go_roundw
      case rel=>exact⟨m+1,by omega,by go_num,⟨_,rfl,by omega,by omega,hid (by first|exact q4i hz0|exact q7r (n:=2*k+m) HZ.out (HNI.out X1.out))⟩,⟨_,rfl,by omega,by omega,hid (by first|exact q4i hy0|exact q7r (n:=2*k+m) HY.out (HNA.out X2.out))⟩,HB⟩
      case measure=>simp[intOf];omega
    ·have hge:¬(m:Int)<2:=by omega
     go_wp2_with fail;go_roundw
     case rel=>exact⟨k+1,by omega,by go_num,⟨z',rfl,hz0,by omega,hid fun i hi=>HZ.out i (by omega)⟩,⟨y',rfl,hy0,by omega,hid fun i hi=>HY.out i (by omega)⟩,hid (qyr HB.out)⟩
     case measure=>simp[intOf];omega
  ·have hge:¬(k:Int)<2:=by omega
   have hz2:1≤z:=by
    obtain⟨i,hi,e⟩:=HPI.out;exact HZ.out i (by omega) e
   have hy2:1≤y:=by
    obtain⟨i,hi,e⟩:=HPA.out;exact HY.out i (by omega) e
   have hzb:(z==0)=false:=beq_eq_false_iff_ne.2 (by omega);have hyb:(y==0)=false:=beq_eq_false_iff_ne.2 (by omega);clear HBL HPI HPA HZ HY HMU;have HBc:Hid (Bxs w1 [(wP.heap.size,p1,p2),(wD.heap.size,d1,d2),(wS.heap.size,s1,s2),(g2,tc,td),(g1,ta,tb)] wr.drew):=hid (qyr (HB.out.later (Below.refl _ _).drew));have eZ:=bx5 HBc.out;have QO4:=qb2 (I:=Bxs w1 [(wP.heap.size,p1,p2),(wD.heap.size,d1,d2),(wS.heap.size,s1,s2),(g2,tc,td),(g1,ta,tb)]) (HO4.out _);have QO5:=qb2 (I:=Bxs w1 [(wP.heap.size,p1,p2),(wD.heap.size,d1,d2),(wS.heap.size,s1,s2),(g2,tc,td),(g1,ta,tb)]) (HO5.out _);clear HO4 HO5 HB;go_wp2_with fail
   go_region_held3 (fun W=>W.cell? ⟨wP.heap.size,0,none⟩=some (.string p1)∧W.cell? ⟨wP.heap.size,1,none⟩=some (.string p2)∧W.cell? ⟨wD.heap.size,0,none⟩=some (.string d1)∧W.cell? ⟨wD.heap.size,1,none⟩=some (.string d2)∧W.cell? ⟨wS.heap.size,0,none⟩=some (.string s1)∧W.cell? ⟨wS.heap.size,1,none⟩=some (.string s2)∧W.cell? ⟨g2,0,none⟩=some (.string tc)∧W.cell? ⟨g2,1,none⟩=some (.string td)∧W.cell? ⟨g1,0,none⟩=some (.string ta)∧W.cell? ⟨g1,1,none⟩=some (.string tb)) (exact bx5 HBc.out)
    (first
     | (go_at_call 12;(with_reducible refine(QO4.out _ HBc.out).mono ?_);rintro e wA ⟨rfl,hb⟩;have HBc:=hid hb;clear hb)
     | (go_at_call 13;(with_reducible refine(QO5.out _ HBc.out).mono ?_);rintro e wB ⟨rfl,hb⟩;have HBc:=hid hb;clear hb))
   obtain⟨-,-,x0,x1,x2⟩:=HCE.out _ HBc.out.1;clear QO4 QO5 eZ;go_wp2_with fail;refine(HME.out _ _ HBc.out).mono ?_;clear x0 x1 x2 HME;rintro e wQ ⟨rfl,HJ⟩;have HI:=hid (q4g HJ.out 24 mm1 mm2);clear HJ;have Q1:=HF1.out _ _ _ HI.out;rw[World.size_alloc] at Q1;have HQ1:=hid Q1;clear Q1 HF1;obtain⟨c0,c1,-⟩:=qcg HI.out.1;go_wp2_with fail;refine HQ1.out.mono ?_;clear HQ1 HI c0 c1;rintro e wG ⟨rfl,HI⟩;go_wp2_with fail;have HJc:Hid (BxI w1 wB.heap.size ws ((wQ.heap.size,mm1,mm2)::[(wP.heap.size,p1,p2),(wD.heap.size,d1,d2),(wS.heap.size,s1,s2),(g2,tc,td),(g1,ta,tb)]) wG.drew):=hid (HI.out.later (Below.refl _ _).drew)
   have HC5:Hid (∀W,BxI w1 wB.heap.size ws ((wQ.heap.size,mm1,mm2)::[(wP.heap.size,p1,p2),(wD.heap.size,d1,d2),(wS.heap.size,s1,s2),(g2,tc,td),(g1,ta,tb)]) W→W.cell? ⟨w.heap.size,4,none⟩=some (.string te)∧W.cell? ⟨w.heap.size,5,none⟩=some (.string tf)∧W.cell? ⟨w.heap.size+1,2,none⟩=some (.int .u8 k2)∧W.cell? ⟨wQ.heap.size,0,none⟩=some (.string mm1)∧W.cell? ⟨wQ.heap.size,1,none⟩=some (.string mm2)):=hid fun W hW=>by
    obtain⟨e0,e1,-⟩:=qcg hW.1;obtain⟨⟨-,-,-,-,f0,f1⟩,⟨-,-,f2⟩,-⟩:=HCE.out _ hW.1.1;exact⟨f0,f1,f2,e0,e1⟩
   have eZ:=HC5.out _ HJc.out;have QB3:=qb2 (HBT3.out _ (HIV.out wB.heap.size ((wQ.heap.size,mm1,mm2)::[(wP.heap.size,p1,p2),(wD.heap.size,d1,d2),(wS.heap.size,s1,s2),(g2,tc,td),(g1,ta,tb)])));have QI4:=qb2 (I:=BxI w1 wB.heap.size ws ((wQ.heap.size,mm1,mm2)::[(wP.heap.size,p1,p2),(wD.heap.size,d1,d2),(wS.heap.size,s1,s2),(g2,tc,td),(g1,ta,tb)])) (HI4.out _ _);clear HI
   go_region_held3 (fun W=>W.cell? ⟨w.heap.size,4,none⟩=some (.string te)∧W.cell? ⟨w.heap.size,5,none⟩=some (.string tf)∧W.cell? ⟨w.heap.size+1,2,none⟩=some (.int .u8 k2)∧W.cell? ⟨wQ.heap.size,0,none⟩=some (.string mm1)∧W.cell? ⟨wQ.heap.size,1,none⟩=some (.string mm2)) (first|exact HC5.out _ HJc.out|exact HC5.out _ (HJc.out.later ((Below.refl _ _).alloc (Nat.le_refl _) _)))
    (first
     | (go_at_call 7;(with_reducible refine(QB3.out _ HJc.out).mono ?_);rintro e wA ⟨rfl,hb⟩;have HJc:=hid hb;clear hb)
     | (go_at_call 16;refine(HMR.out _ _ _ HJc.out).mono ?_;rintro e wA ⟨rfl,hb⟩;have HJc:=hid hb;clear hb)
     | (go_at_call 11;(with_reducible refine(QI4.out _ HJc.out).mono ?_);rintro e wZ ⟨rfl,hb⟩;have HJc:=hid hb;clear hb))
   all_goals
    go_wp2_with fail;go_ret;exact⟨rfl,HB0.out.trans (HJc.out.1.1.mono HB0.out.size)⟩
theorem qvj(ta tb tc td te tf:ByteArray)(n0 n1 n2 m0 m1 m2:Nat)(w:World)(hg:GW w)(b0:n0<256)(b1:n1<256)(b2:n2<256)(q0:m0<256)(q1:m1<256)(q2:m2<256):
  Calls Tryz.prog 3 #[.agg #[.string ta,.string tb,.string tc,.string td,.string te,.string tf],.agg #[.int .u8 (n0:Int),.int .u8 (n1:Int),.int .u8 (n2:Int)],.agg #[.int .u8 (m0:Int),.int .u8 (m1:Int),.int .u8 (m2:Int)]] w fun e w'=>e = .returned (.bool true)∧Below w.heap.size w w':=by
 by_cases hf:fsB [(ta,tb),(tc,td),(te,tf)] 6=true
 ·obtain⟨f1,f2,hab⟩:=qm7 hf (ta,tb) (by simp)
  obtain⟨f3,f4,hcd⟩:=qm7 hf (tc,td) (by simp);obtain⟨f5,f6,hef⟩:=qm7 hf (te,tf) (by simp);obtain⟨-,x1,y1⟩:=qdb f1 (by decide);obtain⟨-,x2,y2⟩:=qdb f2 (by decide);obtain⟨-,x3,y3⟩:=qdb f3 (by decide);obtain⟨-,x4,y4⟩:=qdb f4 (by decide);obtain⟨-,x5,y5⟩:=qdb f5 (by decide);obtain⟨-,x6,y6⟩:=qdb f6 (by decide);have w1:ta=rt (qam ta.data.toList):=x1;have w2:tb=rt (qam tb.data.toList):=x2;have w3:tc=rt (qam tc.data.toList):=x3;have w4:td=rt (qam td.data.toList):=x4;have w5:te=rt (qam te.data.toList):=x5;have w6:tf=rt (qam tf.data.toList):=x6;rw[w1,w2,w3,w4,w5,w6] at hf ⊢;exact q62 _ _ _ _ _ _ n0 n1 n2 m0 m1 m2 w hg b0 b1 b2 q0 q1 q2 y1 y2 y3 y4 y5 y6 hab hcd hef hf
 ·exact q61 ta tb tc td te tf n0 n1 n2 m0 m1 m2 w hg (by simpa using hf)
end Go.Proofs.YtlinhlkgdlfefaaGreatDoor
