/- MeasureParts. -/
import Derived.Test.YthjagoogkkgelaaGreatDoorMAwake
import Derived.Test.YthjagoogkkgelaaGreatDoorMRefParts
import Derived.WalkKit
set_option linter.all false
namespace Go.Proofs.YthjagoogkkgelaaGreatDoor
open Go.RowKit
set_option maxRecDepth 100000
set_option maxHeartbeats 8000000
theorem qg0(w:World)(a b c d:Int)(t:TypeId):qjv (w.alloc (.cells #[.int .i64 a,.int .i64 b,.int .i64 c,.int .i64 d] t)) (.slice (some ⟨w.heap.size,0,none⟩) 4 4) [a,b,c,d]:=by
 refine⟨_,_,rfl,Nat.le_refl _,(by decide:4≤maxLen),.inr ⟨_,_,rfl,fun i hi => ?_⟩⟩;rw[World.cell?_alloc_at _ _ _ _ rfl]
 match i,hi with
 | 0,_=>rfl
 | 1,_=>rfl
 | 2,_=>rfl
 | 3,_=>rfl
theorem qw7(t:Int)(l:List Int):qej [if t<0∨999999999<t then 3 else 0,if l.length=0 then 2 else 0,if 256<l.length then 5 else 0,(qg3 l:Nat)]=(qfr t l:Nat):=by
 unfold qfr
 have h:qej [((qg3 l:Nat):Int)]=(qg3 l:Nat):=by
  show(if((qg3 l:Nat):Int)=0 then 0 else((qg3 l:Nat):Int))=_;split<;>omega
 by_cases h1:t<0∨999999999<t
 ·rw[if_pos h1,if_pos h1];rfl
 ·rw[if_neg h1,if_neg h1]
  by_cases h2:l.length=0
  ·rw[if_pos h2,if_pos h2];rfl
  ·rw[if_neg h2,if_neg h2]
   by_cases h3:256<l.length
   ·rw[if_pos h3,if_pos h3];rfl
   ·rw[if_neg h3,if_neg h3]
    exact h
theorem q03(t:Int)(p:Option Addr)(n c:Nat)(w:World)(hg:GW w)(hn:10<n∧n≤256∨270<n)(hc:n≤maxLen):Calls Tryz.prog 4 #[.int .i64 t,.slice p n c] w fun e w'=>e = .returned (.bool true)∧Below w.heap.size w w':=by
 have HG:=hid hg;have H1:=hid (qd6 w hg);unfold maxLen at hc;clear hg;rcases hn with hn|hn
 ·go_enter Tryz.func4,Tryz.ntmps4
  go_wp2_with fail;refine H1.out.mono ?_;rintro e w1 ⟨rfl,hb⟩;have HB:=hid hb;clear hb H1;have H2:=hid (qd6 w1 (HG.out.later HB.out));go_wp2_with fail;refine H2.out.mono ?_;rintro e w2 ⟨rfl,hb⟩;have HB2:=hid (HB.out.trans (hb.mono HB.out.size));clear hb H2;go_wp2_with fail;go_ret;exact⟨rfl,HB2.out⟩
 ·go_enter Tryz.func4,Tryz.ntmps4
  go_wp2_with fail;refine H1.out.mono ?_;rintro e w1 ⟨rfl,hb⟩;have HB:=hid hb;clear hb H1;have H2:=hid (qd6 w1 (HG.out.later HB.out));go_wp2_with fail;refine H2.out.mono ?_;rintro e w2 ⟨rfl,hb⟩;have HB2:=hid (HB.out.trans (hb.mono HB.out.size));clear hb H2;go_wp2_with fail;go_ret;exact⟨rfl,HB2.out⟩
theorem qqc(b:Bool)(P:Prop)[Decidable P](z:Int)(h:b=decide P)(W:World):Calls Tryz.prog 16 #[.bool b,.int .i64 z] W fun e w'=>e = .returned (.int .i64 (if P then z else 0))∧W=w':=
 (qgh b z W).mono fun e w' ⟨h1,h2⟩=>by
  refine⟨?_,h2⟩;rw[h1,h];by_cases hp:P
  ·rw[if_pos hp,decide_eq_true hp];rfl
  ·rw[if_neg hp,decide_eq_false hp];rfl
theorem q4t(t:Int)(v:Value)(l:List Int)(w:World)(hg:GW w)(hv:qjv w v l)(hn:l.length≤10∨256<l.length∧l.length≤270)(he:qfr t l≠0):Calls Tryz.prog 4 #[.int .i64 t,v] w fun e w'=>e = .returned (.bool true)∧Below w.heap.size w w':=by
 have H1:=hid (qd6 w hg);have HIN:=hid hv;obtain⟨p,c,rfl,hc1,hc2,_⟩:=hv;unfold maxLen at hc2;have hfe:=qw7 t l
 have HAPW:=hid (fun W (h:qjv W (.slice p l.length c) l)=>(qe6 t _ l W h (.inr he)).mono (R':=fun e w'=>e = .returned (.tuple #[.slice none 0 0,.int .i64 (qfr t l:Nat)])∧Below W.heap.size W w') (fun e w' h=>by
  obtain⟨h1,h2⟩:=h;rw[if_neg he] at h1
  exact⟨h1,h2⟩))
 have hw2:=fun W=>qqc ((l.length:Int)==0) (l.length=0) 2 (by rw[Bool.eq_iff_iff];simp) W;have hw5:=fun W=>qqc (decide (256<(l.length:Int))) (256<l.length) 5 (by rw[Bool.eq_iff_iff];simp;omega) W;have hw5t:=fun(h:256<l.length) W=>qqc true (256<l.length) 5 (decide_eq_true h).symm W;have hcw:=fun W (h:qjv W (.slice p l.length c) l)=>qf3 _ l W h (by omega);have hb0:(((qfr t l:Nat):Int) != 0)=true:=by simpa using he
 have hbb:(((qfr t l:Nat):Int)==((qfr t l:Nat):Int))=true:=beq_self_eq_true _;clear he hg;generalize ((qfr t l:Nat):Int)=k at *;generalize (if l.length=0 then(2:Int) else 0)=b2 at *;generalize (if 256<l.length then(5:Int) else 0)=b5 at *;generalize ((qg3 l:Nat):Int)=b6 at *;have HW2:=hid hw2;have HW5:=hid hw5;have HCW:=hid hcw;have HW5T:=hid hw5t;have hlen:l.length≤270:=by omega
 clear hw2 hw5 hw5t hcw;rcases hn with hn|hn
 ·go_enter Tryz.func4,Tryz.ntmps4
  go_wp2_with fail;refine H1.out.mono ?_;rintro e w1 ⟨rfl,hb⟩;have HB:=hid hb;have HI1:=hid (HIN.out.later hb);have HAP:=hid (HAPW.out w1 HI1.out);clear hb H1;go_wp2_with fail;refine HAP.out.mono ?_;rintro e w2 ⟨rfl,hb⟩;have HB2:=hid (HB.out.trans (hb.mono HB.out.size));have HI2:=hid (HI1.out.later hb);clear hb HAP HI1;by_cases h0:t<0
  ·rw[if_pos (.inl h0)] at hfe
   have HF:=hid hfe;clear hfe;go_wp2_with fail;refine(qgh _ _ _).mono ?_;rintro e w3 ⟨rfl,rfl⟩;go_wp2_with fail;refine(HW2.out _).mono ?_;rintro e w4 ⟨rfl,rfl⟩;go_wp2_with fail;refine(HW5.out _).mono ?_;rintro e w4 ⟨rfl,rfl⟩;go_wp2_with fail;refine(HCW.out _ HI2.out).mono ?_;rintro e w4 ⟨rfl,rfl⟩;go_wp2_with fail;refine(qfx _ [3,b2,b5,b6] _ (qg0 _ _ _ _ _ _) (show 4≤1048576 by decide)).mono ?_;rintro e w5 ⟨rfl,rfl⟩;rw[HF.out];go_wp2_with fail;go_ret;exact⟨rfl,HB2.out.alloc HB2.out.size _⟩
  ·by_cases h1:999999999<t
   ·rw[if_pos (.inr h1)] at hfe
    have HF:=hid hfe;clear hfe;go_wp2_with fail;refine(qgh _ _ _).mono ?_;rintro e w3 ⟨rfl,rfl⟩;go_wp2_with fail;refine(HW2.out _).mono ?_;rintro e w4 ⟨rfl,rfl⟩;go_wp2_with fail;refine(HW5.out _).mono ?_;rintro e w4 ⟨rfl,rfl⟩;go_wp2_with fail;refine(HCW.out _ HI2.out).mono ?_;rintro e w4 ⟨rfl,rfl⟩;go_wp2_with fail;refine(qfx _ [3,b2,b5,b6] _ (qg0 _ _ _ _ _ _) (show 4≤1048576 by decide)).mono ?_;rintro e w5 ⟨rfl,rfl⟩;rw[HF.out];go_wp2_with fail;go_ret;exact⟨rfl,HB2.out.alloc HB2.out.size _⟩
   ·rw[if_neg (by omega)] at hfe
    have HF:=hid hfe;clear hfe;go_wp2_with fail;refine(qgh _ _ _).mono ?_;rintro e w3 ⟨rfl,rfl⟩;go_wp2_with fail;refine(HW2.out _).mono ?_;rintro e w4 ⟨rfl,rfl⟩;go_wp2_with fail;refine(HW5.out _).mono ?_;rintro e w4 ⟨rfl,rfl⟩;go_wp2_with fail;refine(HCW.out _ HI2.out).mono ?_;rintro e w4 ⟨rfl,rfl⟩;go_wp2_with fail;refine(qfx _ [0,b2,b5,b6] _ (qg0 _ _ _ _ _ _) (show 4≤1048576 by decide)).mono ?_;rintro e w5 ⟨rfl,rfl⟩;rw[HF.out];go_wp2_with fail;go_ret;exact⟨rfl,HB2.out.alloc HB2.out.size _⟩
 ·go_enter Tryz.func4,Tryz.ntmps4
  go_wp2_with fail;refine H1.out.mono ?_;rintro e w1 ⟨rfl,hb⟩;have HB:=hid hb;have HI1:=hid (HIN.out.later hb);have HAP:=hid (HAPW.out w1 HI1.out);clear hb H1;go_wp2_with fail;refine HAP.out.mono ?_;rintro e w2 ⟨rfl,hb⟩;have HB2:=hid (HB.out.trans (hb.mono HB.out.size));have HI2:=hid (HI1.out.later hb);clear hb HAP HI1;by_cases h0:t<0
  ·rw[if_pos (.inl h0)] at hfe
   have HF:=hid hfe;clear hfe;go_wp2_with fail;refine(qgh _ _ _).mono ?_;rintro e w3 ⟨rfl,rfl⟩;go_wp2_with fail;refine(HW2.out _).mono ?_;rintro e w4 ⟨rfl,rfl⟩;go_wp2_with fail;refine(HW5T.out (by omega) _).mono ?_;rintro e w4 ⟨rfl,rfl⟩;go_wp2_with fail;refine(HCW.out _ HI2.out).mono ?_;rintro e w4 ⟨rfl,rfl⟩;go_wp2_with fail;refine(qfx _ [3,b2,b5,b6] _ (qg0 _ _ _ _ _ _) (show 4≤1048576 by decide)).mono ?_;rintro e w5 ⟨rfl,rfl⟩;rw[HF.out];go_wp2_with fail;go_ret;exact⟨rfl,HB2.out.alloc HB2.out.size _⟩
  ·by_cases h1:999999999<t
   ·rw[if_pos (.inr h1)] at hfe
    have HF:=hid hfe;clear hfe;go_wp2_with fail;refine(qgh _ _ _).mono ?_;rintro e w3 ⟨rfl,rfl⟩;go_wp2_with fail;refine(HW2.out _).mono ?_;rintro e w4 ⟨rfl,rfl⟩;go_wp2_with fail;refine(HW5T.out (by omega) _).mono ?_;rintro e w4 ⟨rfl,rfl⟩;go_wp2_with fail;refine(HCW.out _ HI2.out).mono ?_;rintro e w4 ⟨rfl,rfl⟩;go_wp2_with fail;refine(qfx _ [3,b2,b5,b6] _ (qg0 _ _ _ _ _ _) (show 4≤1048576 by decide)).mono ?_;rintro e w5 ⟨rfl,rfl⟩;rw[HF.out];go_wp2_with fail;go_ret;exact⟨rfl,HB2.out.alloc HB2.out.size _⟩
   ·rw[if_neg (by omega)] at hfe
    have HF:=hid hfe;clear hfe;go_wp2_with fail;refine(qgh _ _ _).mono ?_;rintro e w3 ⟨rfl,rfl⟩;go_wp2_with fail;refine(HW2.out _).mono ?_;rintro e w4 ⟨rfl,rfl⟩;go_wp2_with fail;refine(HW5T.out (by omega) _).mono ?_;rintro e w4 ⟨rfl,rfl⟩;go_wp2_with fail;refine(HCW.out _ HI2.out).mono ?_;rintro e w4 ⟨rfl,rfl⟩;go_wp2_with fail;refine(qfx _ [0,b2,b5,b6] _ (qg0 _ _ _ _ _ _) (show 4≤1048576 by decide)).mono ?_;rintro e w5 ⟨rfl,rfl⟩;rw[HF.out];go_wp2_with fail;go_ret;exact⟨rfl,HB2.out.alloc HB2.out.size _⟩
theorem qro{t:Int}{l:List Int}(h:qfr t l=0):0≤t∧t≤999999999∧1≤l.length∧l.length≤256∧qg3 l=0:=by
 unfold qfr at h;split at h
 ·cases h
 ·split at h
  ·cases h
  ·split at h
   ·cases h
   ·exact⟨by omega,by omega,by omega,by omega,h⟩
theorem qn9(t:Int)(l:List Int):(qal t l).length=l.length:=by
 unfold qal;rw[qdn];simp[qfq]
theorem qrp{W:World}{g:Nat}{l:List Int}(h:Own W g l.length (iv l)):qhb W g 0 l:=fun j x hj=>by
 have hjl:j<l.length:=(List.getElem?_eq_some_iff.1 hj).1;rw[Nat.zero_add,(h.2 j hjl).1];unfold iv;rw[List.getD_eq_getElem?_getD,hj];rfl
theorem q7h(t:Int)(v:Value)(l:List Int)(w:World)(hg:GW w)(hv:qjv w v l)(hn:l.length≤10)(he:qfr t l=0):Calls Tryz.prog 4 #[.int .i64 t,v] w fun e w'=>e = .returned (.bool true)∧Below w.heap.size w w':=by
 have H1:=hid (qd6 w hg);have HIN:=hid hv;obtain⟨p,c,rfl,hc1,hc2,_⟩:=hv;unfold maxLen at hc2;obtain⟨ht0,ht1,hn1,hn2,hwe⟩:=qro he;have hal:=qn9 t l;have HF:Hid (qej [0,0,0,0]=0):=hid rfl
 have HAPW:=hid (fun W (h:qjv W (.slice p l.length c) l)=>(qe6 t _ l W h (.inl (by omega))).mono (R':=fun e w'=>(∃g,e = .returned (.tuple #[.slice (some ⟨g,0,none⟩) l.length l.length,.int .i64 0])∧qhb w' g 0 (qal t l))∧Below W.heap.size W w') (fun e w' h=>by
  obtain⟨h1,h2⟩:=h;rw[if_pos he] at h1;obtain⟨g,_,h3,h4⟩:=h1
  exact⟨⟨g,h3,qrp (by rw[hal];exact h4)⟩,h2⟩))
 have HREF:=hid (fun W (h:qjv W (.slice p l.length c) l)=>(qqb t _ l W h (by omega) hn1 ht0 ht1 hwe).mono (R':=fun e w'=>(∃g,e = .returned (.slice (some ⟨g,0,none⟩) l.length l.length)∧qhb w' g 0 (qal t l))∧Below W.heap.size W w') (fun e w' h=>by
  obtain⟨⟨g,_,h3,h4⟩,h2⟩:=h
  exact⟨⟨g,h3,qrp (by rw[hal];exact h4)⟩,h2⟩))
 have HSI:=hid (fun W g g' (h:qhb W g 0 (qal t l)) (h':qhb W g' 0 (qal t l))=>ql7 (qal t l) g 0 l.length g' 0 l.length W h h' (by omega));rw[hal] at HSI;have HW2:=hid (fun W=>(qqc ((l.length:Int)==0) (l.length=0) 2 (by rw[Bool.eq_iff_iff];simp) W).mono (R':=fun e w'=>e = .returned (.int .i64 0)∧W=w') fun e w' ⟨h1,h2⟩=>⟨by rw[h1,if_neg (by omega)],h2⟩);have HW5:=hid (fun W=>(qqc (decide (256<(l.length:Int))) (256<l.length) 5 (by rw[Bool.eq_iff_iff];simp;omega) W).mono (R':=fun e w'=>e = .returned (.int .i64 0)∧W=w') fun e w' ⟨h1,h2⟩=>⟨by rw[h1,if_neg (by omega)],h2⟩);have HCW:=hid (fun W (h:qjv W (.slice p l.length c) l)=>(qf3 _ l W h (by omega)).mono (R':=fun e w'=>e = .returned (.int .i64 0)∧W=w') fun e w' ⟨h1,h2⟩=>⟨by rw[h1,hwe];rfl,h2⟩);clear he hg hwe;have h0:¬t<0:=by omega
 have h1:¬999999999<t:=by omega
 go_enter Tryz.func4,Tryz.ntmps4;go_wp2_with fail;refine H1.out.mono ?_;rintro e w1 ⟨rfl,hb⟩;have HB:=hid hb;have HI1:=hid (HIN.out.later hb);have HAP:=hid (HAPW.out w1 HI1.out);clear hb H1;go_wp2_with fail;refine HAP.out.mono ?_;rintro e w2 ⟨⟨g,rfl,hia⟩,hb⟩;have HB2:=hid (HB.out.trans (hb.mono HB.out.size));have HI2:=hid (HI1.out.later hb);have HIA:=hid hia;clear hb hia HAP HI1;go_wp2_with fail;refine(qgh _ _ _).mono ?_;rintro e w3 ⟨rfl,rfl⟩;go_wp2_with fail;refine(HW2.out _).mono ?_;rintro e w4 ⟨rfl,rfl⟩;go_wp2_with fail;refine(HW5.out _).mono ?_;rintro e w4 ⟨rfl,rfl⟩;go_wp2_with fail;refine(HCW.out _ HI2.out).mono ?_;rintro e w4 ⟨rfl,rfl⟩;go_wp2_with fail;refine(qfx _ [0,0,0,0] _ (qg0 _ _ _ _ _ _) (show 4≤1048576 by decide)).mono ?_;rintro e w5 ⟨rfl,rfl⟩;rw[HF.out];have HBL:=fun(o:Obj)=>(Below.refl w2.heap.size w2).alloc (Nat.le_refl _) o;go_wp2_with fail;refine(HREF.out _ (HI2.out.later (HBL _))).mono ?_;rintro e w6 ⟨⟨g',rfl,hia⟩,hb⟩;have HB6:=hid ((HB2.out.alloc HB2.out.size _).trans (hb.mono (by rw[World.size_alloc];have:=HB2.out.size;omega)));have HIA6:=hid ((HIA.out.later (HBL _)).later hb);have HIB6:=hid hia;have HSA:=hid (HSI.out w6 g g' HIA6.out HIB6.out);clear hb hia HBL;go_wp2_with fail;refine HSA.out.mono ?_;rintro e w7 ⟨rfl,hb⟩;have HB7:=hid (HB6.out.trans (hb.mono HB6.out.size));clear hb HSA;go_wp2_with fail;go_ret;exact⟨rfl,HB7.out⟩
theorem qu9(t:Int)(p:Option Addr)(c:Nat)(l:List Int)(w:World)(hg:GW w)(hv:qjv w (.slice p l.length c) l):Calls Tryz.prog 4 #[.int .i64 t,.slice p l.length c] w fun e w'=>e = .returned (.bool true)∧Below w.heap.size w w':=by
 by_cases hn:10<l.length∧l.length≤256∨270<l.length
 ·obtain⟨_,_,h,h1,h2,_⟩:=hv
  injection h with _ h3 h4
  subst h4;exact q03 t p l.length c w hg hn (by omega)
 ·by_cases he:qfr t l=0
  ·exact q7h t _ l w hg hv (by have:=qro he;omega) he
  ·exact q4t t _ l w hg hv (by omega) he
end Go.Proofs.YthjagoogkkgelaaGreatDoor
