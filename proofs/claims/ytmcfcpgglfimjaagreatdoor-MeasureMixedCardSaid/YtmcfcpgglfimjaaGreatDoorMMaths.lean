/- Plain mathematics: natural numbers written as digits to a base, the lowest digit first. Nothing of the program is imported. -/

set_option linter.all false
namespace Go.Proofs.YtmcfcpgglfimjaaGreatDoor
def val(b:Nat):List Nat→Nat
 | []=>0
 | d::l=>d+b*val b l
@[simp] theorem val_nil (b:Nat):val b []=0:=rfl
@[simp] theorem val_cons (b d:Nat) (l:List Nat):val b (d::l)=d+b*val b l:=rfl
theorem qqd(b:Nat)(l m:List Nat):val b (l++m)=val b l+b^l.length*val b m:=by
 induction l with
 | nil=>simp
 | cons d l ih=>simp only[List.cons_append,val_cons,List.length_cons,ih,Nat.pow_succ];grind
theorem qd8(b:Nat)(l:List Nat)(d:Nat):val b (l++[d])=val b l+b^l.length*d:=by
 rw[qqd];simp
theorem qiv(b:Nat)(l:List Nat)(h:∀d ∈ l,d<b):val b l<b^l.length:=by
 induction l with
 | nil=>simp
 | cons d l ih=>
  have h1:=ih (fun x hx=>h x (List.mem_cons_of_mem _ hx));have h2:=h d (List.mem_cons_self);simp only[val_cons,List.length_cons,Nat.pow_succ];have h3:val b l+1≤b^l.length:=h1;have h4:=Nat.mul_le_mul_left b h3;rw[Nat.mul_comm (b^l.length) b]
  grind
theorem qgr(b k:Nat):val b (List.replicate k 0)=0:=by
 induction k with
 | zero=>rfl
 | succ k ih=>simp[List.replicate_succ,ih]
def qao(b n:Nat):List Nat:=if _h:n=0∨b<2 then[] else n % b::qao b (n/b)
termination_by n
decreasing_by
 have:0<n:=by omega
 exact Nat.div_lt_self this (by omega)
theorem qau(b:Nat):qao b 0=[]:=by rw[qao];simp
theorem qfx(b n:Nat)(hb:2≤b)(hn:0<n):qao b n=n % b::qao b (n/b):=by
 rw[qao,dif_neg (by omega)]
theorem qe1{b n:Nat}(hb:2≤b):qao b n=[]↔n=0:=by
 constructor
 ·intro h
  rcases Nat.eq_zero_or_pos n with e|e
  ·exact e
  ·rw[qfx b n hb e] at h;cases h
 ·rintro rfl;exact qau b
theorem qar(b n:Nat)(hb:2≤b):val b (qao b n)=n:=by
 induction n using Nat.strongRecOn with
 | ind n ih=>
  rcases Nat.eq_zero_or_pos n with e|e
  ·subst e;rw[qau];rfl
  ·rw[qfx b n hb e,val_cons,ih _ (Nat.div_lt_self e (by omega))]
   exact Nat.mod_add_div n b
theorem qed(b n:Nat)(hb:2≤b):∀d ∈ qao b n,d<b:=by
 induction n using Nat.strongRecOn with
 | ind n ih=>
  rcases Nat.eq_zero_or_pos n with e|e
  ·subst e;rw[qau];simp
  ·rw[qfx b n hb e]
   intro d hd;rcases List.mem_cons.1 hd with rfl|hd
   ·exact Nat.mod_lt _ (by omega)
   ·exact ih _ (Nat.div_lt_self e (by omega)) d hd
def qiw:List Nat→List Nat
 | []=>[]
 | d::l=>if d=0∧qiw l=[] then[] else d::qiw l
theorem qn6(l:List Nat):qiw (l++[0])=qiw l:=by
 induction l with
 | nil=>simp[qiw]
 | cons d l ih=>simp[qiw,ih]
theorem qpz(l:List Nat)(d:Nat)(h:d≠0):qiw (l++[d])=l++[d]:=by
 induction l with
 | nil=>simp[qiw,h]
 | cons e l ih=>simp[qiw,ih]
theorem qky(b:Nat)(hb:2≤b)(l:List Nat)(h:∀d ∈ l,d<b):qiw l=qao b (val b l):=by
 induction l with
 | nil=>simp[qiw,qau]
 | cons d l ih=>
  have ih':=ih (fun x hx=>h x (List.mem_cons_of_mem _ hx));have hd:=h d List.mem_cons_self;simp only[qiw,val_cons];by_cases hz:d=0∧qiw l=[]
  ·rw[if_pos hz]
   have:val b l=0:=by rw[ih'] at hz;exact(qe1 hb).1 hz.2
   rw[this,hz.1];simp[qau]
  ·rw[if_neg hz]
   have jN:0<d+b*val b l:=by
    rcases Nat.eq_zero_or_pos d with e|e
    ·have:qiw l≠[]:=fun e'=>hz ⟨e,e'⟩
     rw[ih'] at this;have h0:val b l≠0:=fun e'=>this ((qe1 hb).2 e');have:=Nat.mul_pos (show 0<b by omega) (Nat.pos_of_ne_zero h0);omega
    ·omega
   rw[qfx b _ hb jN,ih'];have e1:(d+b*val b l) % b=d:=by rw[Nat.add_mul_mod_self_left];exact Nat.mod_eq_of_lt hd
   have e2:(d+b*val b l)/b=val b l:=by
    rw[Nat.add_mul_div_left _ _ (by omega),Nat.div_eq_of_lt hd];simp
   rw[e1,e2]
theorem qkz(b:Nat)(hb:2≤b)(l:List Nat)(h:∀d ∈ l,d<b)(hl:∀m d,l=m++[d]→d≠0):qao b (val b l)=l:=by
 rw[←qky b hb l h];rcases List.eq_nil_or_concat l with e|⟨m,d,e⟩
 ·subst e;rfl
 ·subst e;simp only[List.concat_eq_append] at *;exact qpz m d (hl m d rfl)
theorem qix{b n:Nat}(hb:2≤b){m:List Nat}{d:Nat}(h:qao b n=m++[d]):d≠0:=by
 intro e;subst e;have bC:=qed b n hb;have h1:=qky b hb (m++[0]) (by rw[←h];exact bC);rw[←h,qar b n hb,h,qn6] at h1
 have h2:(qiw m).length≤m.length:=by
  clear h1 h bC
  induction m with
  | nil=>simp[qiw]
  | cons x m ih=>simp only[qiw];split<;>simp;omega
 rw[h1] at h2;simp at h2;omega
theorem qcf{b n k:Nat}(hb:2≤b)(h:n<b^k):(qao b n).length≤k:=by
 induction k generalizing n with
 | zero=>
      have:n=0:=by simpa using h
      subst this;simp[qau]
 | succ k ih=>
  rcases Nat.eq_zero_or_pos n with e|e
  ·subst e;simp[qau]
  ·rw[qfx b n hb e]
   have:n/b<b^k:=by rw[Nat.div_lt_iff_lt_mul (by omega)];rw[Nat.pow_succ] at h;exact h
   have:=ih this;simp;omega
theorem qcj(b n:Nat)(hb:2≤b):n<b^(qao b n).length:=by
 have:=qiv b (qao b n) (qed b n hb)
 rwa [qar b n hb] at this
theorem qg3{b n:Nat}(hb:2≤b)(hn:0<n):b^((qao b n).length-1)≤n:=by
 rcases Nat.lt_or_ge n (b^((qao b n).length-1)) with h|h
 ·have h1:=qcf hb h
  have h2:(qao b n).length≠0:=by
   intro e;have:=List.eq_nil_of_length_eq_zero e;rw[qe1 hb] at this;omega
  omega
 ·exact h
theorem qal{b m n:Nat}(hb:2≤b)(h:m≤n):(qao b m).length≤(qao b n).length:=
 qcf hb (Nat.lt_of_le_of_lt h (qcj b n hb))
theorem qq4{b m n:Nat}(hb:2≤b)(h:qao b m=qao b n):m=n:=by
 rw[←qar b m hb,h,qar b n hb]
def low(b:Nat)(l:List Nat)(k:Nat):Nat:=val b (l.take k)
@[simp] theorem low_zero (b:Nat) (l:List Nat):low b l 0=0:=by simp[low]
theorem qa0(b:Nat)(l:List Nat)(k:Nat):low b l (k+1)=low b l k+b^k*l.getD k 0:=by
 unfold low;by_cases h:k<l.length
 ·rw[List.take_succ_eq_append_getElem h,qd8,List.length_take,Nat.min_eq_left (by omega)]
  simp[h]
 ·rw[List.take_of_length_le (by omega),List.take_of_length_le (by omega)]
  simp[h]
theorem qbf(b:Nat)(l:List Nat)(k:Nat)(h:l.length≤k):low b l k=val b l:=by
 unfold low;rw[List.take_of_length_le h]
theorem qm3(b:Nat)(l:List Nat)(k:Nat)(hb:0<b)(h:∀d ∈ l,d<b):low b l k<b^k:=by
 have h1:=qiv b (l.take k) (fun d hd=>h d (List.mem_of_mem_take hd));exact Nat.lt_of_lt_of_le h1 (Nat.pow_le_pow_right hb (List.length_take_le _ _))
def qbi(b:Nat)(l:List Nat)(k:Nat):Nat:=val b (l.drop k)
@[simp] theorem high_zero (b:Nat) (l:List Nat):qbi b l 0=val b l:=by simp[qbi]
theorem qdg(b:Nat)(l:List Nat)(k:Nat)(h:l.length≤k):qbi b l k=0:=by
 unfold qbi;rw[List.drop_of_length_le h];rfl
theorem qbv(b:Nat)(l:List Nat)(k:Nat):qbi b l k=l.getD k 0+b*qbi b l (k+1):=by
 unfold qbi;by_cases h:k<l.length
 ·rw[List.drop_eq_getElem_cons h,val_cons];simp[h]
 ·rw[List.drop_of_length_le (by omega),List.drop_of_length_le (by omega)];simp[h]
theorem qfi(b:Nat)(l:List Nat)(k:Nat)(hk:k≤l.length):val b l=low b l k+b^k*qbi b l k:=by
 have h1:val b l=val b (l.take k++l.drop k):=by rw[List.take_append_drop]
 rw[h1,qqd,List.length_take,Nat.min_eq_left hk];rfl
theorem qaz{b:Nat}{l:List Nat}(hb:0<b)(h:∀d ∈ l,d<b)(k:Nat):l.getD k 0<b:=by
 by_cases hk:k<l.length
 ·simp[hk];exact h _ (List.getElem_mem _)
 ·simp[hk,hb]
theorem qhr{b:Nat}{l m:List Nat}(hb:2≤b)(hlm:l.length=m.length)(hl:∀d ∈ l,d<b)(k:Nat)(hk:k<l.length)
  (iW:l.drop (k+1)=m.drop (k+1)) (bC:l.getD k 0<m.getD k 0):val b l<val b m:=by
 rw[qfi b l (k+1) (by omega),qfi b m (k+1) (by omega)];have e:qbi b l (k+1)=qbi b m (k+1):=by unfold qbi;rw[iW]
 rw[e,qa0,qa0];have h1:=qm3 b l k (by omega) hl;have h2:l.getD k 0+1≤m.getD k 0:=bC;have h3:=Nat.mul_le_mul_left (b^k) h2;rw[Nat.mul_add] at h3;omega
theorem qd9{b m n:Nat}(hb:2≤b)(h:(qao b m).length<(qao b n).length):m<n:=by
 rcases Nat.lt_or_ge m n with h1|h1
 ·exact h1
 ·have:=qal hb h1;omega
theorem qsl{b u u1 Y y1 y0 q r:Nat}(hY:Y=y1*b+y0)(fY:q*y1+r=u)(hQb:(u*b+u1)/Y<b)(rK:0<Y)
  (h:b≤q∨b*r+u1<q*y0):(u*b+u1)/Y≤q-1∧1≤q:=by
 rcases h with h|h
 ·generalize (u*b+u1)/Y=Q at *
  omega
 ·have h1:u*b+u1<q*Y:=by
   rw[hY,←fY,Nat.mul_add,Nat.add_mul,←Nat.mul_assoc];rw[Nat.mul_comm r b];omega
  have h2:(u*b+u1)/Y<q:=(Nat.div_lt_iff_lt_mul rK).2 h1;generalize (u*b+u1)/Y=Q at *;omega
theorem qn7{b u u1 Y y1 y0 q r:Nat}(hY:Y=y1*b+y0)(fY:q*y1+r=u)(rK:0<Y)(h:q*y0≤b*r+u1):q≤(u*b+u1)/Y:=by
 rw[Nat.le_div_iff_mul_le rK,hY,←fY,Nat.mul_add,Nat.add_mul,←Nat.mul_assoc,Nat.mul_comm r b];omega
theorem qwt{b u u1 Y:Nat}(hu:u<Y)(mV:u1<b):(u*b+u1)/Y<b:=by
 rw[Nat.div_lt_iff_lt_mul (by omega)];have:(u+1)*b≤Y*b:=Nat.mul_le_mul_right b hu;rw[Nat.add_mul,Nat.mul_comm Y b] at this;omega
theorem qn8{b u u1 Y y1 y0:Nat}(hY:Y=y1*b+y0)(Ll:y0<b)(uF:b≤2*y1)(hy1p:0<y1)(mV:u1<b)(hu:u<Y):
  (u*b+u1)/Y≤u/y1∧u/y1≤b+1∧u/y1*y1+u % y1=u:=by
 refine⟨?_, ?_, ?_⟩
 ·rw[Nat.le_div_iff_mul_le hy1p]
  have h1:(u*b+u1)/Y*Y≤u*b+u1:=Nat.div_mul_le_self _ _;have h2:(u*b+u1)/Y*(y1*b)≤(u*b+u1)/Y*Y:=Nat.mul_le_mul_left _ (by omega);generalize (u*b+u1)/Y=q at *;rw[←Nat.mul_assoc] at h2;have h3:q*y1*b<(u+1)*b:=by rw[Nat.add_mul];omega
  have:=Nat.lt_of_mul_lt_mul_right h3;omega
 ·have h1:u/y1<b+2:=by
   rw[Nat.div_lt_iff_lt_mul hy1p,Nat.add_mul,Nat.mul_comm b y1];omega
  omega
 ·rw[Nat.mul_comm];exact Nat.div_add_mod u y1
theorem qn9{b u u1 Y y1 y0 q r:Nat}(hY:Y=y1*b+y0)(Ll:y0<b)(fY:q*y1+r=u)(rK:0<Y)(hq:q≤b)(hr:b≤r):q≤(u*b+u1)/Y:=by
 refine qn7 hY fY rK ?_;have h1:q*y0≤b*b:=Nat.mul_le_mul hq (by omega);have h2:b*b≤b*r:=Nat.mul_le_mul_left _ hr;omega
theorem qoa{s lo:Nat}(hs:s≤64):lo*2^s=(lo/2^(64-s))*2^64+lo*2^s % 2^64:=by
 have e:(2:Nat)^64=2^(64-s)*2^s:=by rw[←Nat.pow_add];congr 1;omega
 have h1:lo*2^s/2^64=lo/2^(64-s):=by
  rw[e,Nat.mul_div_mul_right _ _ (Nat.two_pow_pos s)]
 rw[←h1,Nat.mul_comm (lo*2^s/2^64)];exact(Nat.div_add_mod _ _).symm
theorem qob{N y t q r:Nat}(ht:0<t)(h:N*t=q*(y*t)+r)(hr:r<y*t):N/y=q∧r/t=N % y:=by
 have h1:r % t=0:=by
  have h2:(q*(y*t)+r) % t=0:=by rw[←h];exact Nat.mul_mod_left _ _
  rw[←Nat.mul_assoc,Nat.mul_add_mod_self_right] at h2;exact h2
 obtain⟨r',rfl⟩:=Nat.dvd_of_mod_eq_zero h1
 have h3:N=q*y+r':=by
  have:N*t=(q*y+r')*t:=by rw[h,Nat.add_mul,Nat.mul_assoc,Nat.mul_comm t r']
  exact Nat.eq_of_mul_eq_mul_right ht this
 have h4:r'<y:=by rw[Nat.mul_comm] at hr;exact Nat.lt_of_mul_lt_mul_right hr
 have hy:0<y:=by omega
 rw[Nat.mul_div_cancel_left _ ht,h3];constructor
 ·rw[Nat.mul_comm q y,Nat.mul_add_div hy,Nat.div_eq_of_lt h4];omega
 ·rw[Nat.mul_comm q y,Nat.mul_add_mod,Nat.mod_eq_of_lt h4]
theorem qya{b N t Y u L L1 L0 y:Nat}(bX:N*t=u*(b*b)+L)(hL:L=L1*b+L0)(hY:Y=y*t)(ht:0<t)(rK:0<Y):
  ∃A V C R:Nat,(u*b+L1)/Y=A∧A*Y+V=u*b+L1∧V<Y∧(V*b+L0)/Y=C∧C*Y+R=V*b+L0∧R<Y∧N/y=A*b+C∧N % y=R/t:=by
 have hA:=Nat.div_add_mod (u*b+L1) Y;have hV:=Nat.mod_lt (u*b+L1) rK;have hC:=Nat.div_add_mod ((u*b+L1) % Y*b+L0) Y;have hR:=Nat.mod_lt ((u*b+L1) % Y*b+L0) rK;refine⟨_,(u*b+L1) % Y,_,((u*b+L1) % Y*b+L0) % Y,rfl,by rw[Nat.mul_comm];exact hA,hV,rfl,by rw[Nat.mul_comm];exact hC,hR, ?_⟩;rw[Nat.mul_comm] at hA hC;generalize (u*b+L1)/Y=A at *;generalize (u*b+L1) % Y=V at *;generalize (V*b+L0)/Y=C at *;generalize (V*b+L0) % Y=R at *
 have h:N*t=(A*b+C)*(y*t)+R:=by
  rw[bX,hL,←hY,Nat.add_mul,Nat.mul_right_comm A b Y,Nat.add_assoc,hC,←Nat.mul_assoc,←Nat.add_assoc,←Nat.add_assoc,←Nat.add_mul,←Nat.add_mul,hA]
 obtain⟨h1,h2⟩:=qob ht h (by rw[←hY];exact hR);exact⟨h1,h2.symm⟩
def Rec(a b u0 u1 v0 v1:Nat)(even:Bool):Prop:=
 v0=0∨(1≤v1∧(even=true→u0*v1=u1*v0+1∧v0*b≤u0*a∧u1*a≤v1*b∧(v0+v1)*b≤(u0+u1)*a)∧
  (even=false→u1*v0=u0*v1+1∧u0*a≤v0*b∧v1*b≤u1*a∧(u0+u1)*a≤(v0+v1)*b))
structure q9d(a b h l qbi low u0 u1 v0 v1 u v:Nat)(even:Bool):Prop where
 i1:qbi*v+low*v1=h
 i2:qbi*u+low*u1=l
 det:(even=false→v*u1=u*v1+1)∧(even=true→u*v1=v*u1+1)
 uv:u≤v
 v1':1≤v
 hl:low≤qbi
 first:u1≤v1∨(u1=1∧v1=0∧u=0∧v=1∧even=false)
 nonneg:(even=false→v1*b≤u1*a)∧(even=true→u1*a≤v1*b)
 rec':Rec a b u0 u1 v0 v1 even
theorem qyb(a b h l:Nat)(hl:l≤h):q9d a b h l h l 0 1 0 0 0 1 false where
 i1:=by simp
 i2:=by simp
 det:=by simp
 uv:=by omega
 v1':=Nat.le_refl _
 hl:=hl
 first := .inr ⟨rfl,rfl,rfl,rfl,rfl⟩
 nonneg:=by simp
 rec' := .inl rfl
theorem qhs{qbi low u u1 v v1 h l:Nat}(i1:qbi*v+low*v1=h)(i2:qbi*u+low*u1=l)(d:v*u1=u*v1+1):
  v1*l+qbi=u1*h∧u*h+low=v*l:=by
 subst i1 i2;constructor
 ·have e:=congrArg (qbi * ·) d
  simp only[Nat.mul_add,Nat.mul_one] at e;have:u1*(qbi*v)=qbi*(v*u1):=by grind
  have:v1*(qbi*u)=qbi*(u*v1):=by grind
  have:v1*(low*u1)=u1*(low*v1):=by grind
  rw[Nat.mul_add,Nat.mul_add];omega
 ·have e:=congrArg (low * ·) d
  simp only[Nat.mul_add,Nat.mul_one] at e;have:v*(low*u1)=low*(v*u1):=by grind
  have:u*(low*v1)=low*(u*v1):=by grind
  have:v*(qbi*u)=u*(qbi*v):=by grind
  rw[Nat.mul_add,Nat.mul_add];omega
theorem qk0{a b h l P al bl x y d:Nat}(ha:a=h*P+al)(hb:b=l*P+bl)(aD:al<P)(hd:y*h+d=x*l)(hyd:y≤d):y*a≤x*b:=by
 subst ha hb
 have h1:y*al≤d*P:=by
  have h2:y*al≤y*P:=Nat.mul_le_mul_left _ (Nat.le_of_lt aD);have h3:y*P≤d*P:=Nat.mul_le_mul_right _ hyd;omega
 have h4:y*(h*P)+d*P=x*(l*P):=by rw[←Nat.mul_assoc,←Nat.mul_assoc,←Nat.add_mul,hd]
 rw[Nat.mul_add,Nat.mul_add];omega
theorem q0k{a b h l qbi low u0 u1 v0 v1 u v P al bl:Nat}{even:Bool}(I:q9d a b h l qbi low u0 u1 v0 v1 u v even)(ha:a=h*P+al)(hb:b=l*P+bl)(aD:al<P)(lK:bl<P)
  (h1:v≤low) (h2:v1+v≤qbi-low):
  q9d a b h l low (qbi % low) u1 u v1 v (u1+qbi/low*u) (v1+qbi/low*v) (!even):=by
 obtain⟨i1,i2,det,uv,v1',hl,first,nonneg,_⟩:=I;have hq:=Nat.div_add_mod qbi low;have lL:0<low:=by omega
 have hmod:qbi % low<low:=Nat.mod_lt _ lL;have tI:1≤qbi/low:=(Nat.le_div_iff_mul_le lL).2 (by omega);have hne:v*b≤v*b:=Nat.le_refl _
 have Cs:even=false→u*a≤v*b:=fun e=>by
  obtain⟨_,h4⟩:=qhs i1 i2 (det.1 e);exact qk0 ha hb aD h4 (by omega)
 have qJ:even=true→v*b≤u*a:=fun e=>by
  have d:=det.2 e;obtain⟨h3,h4⟩:=qhs (qbi:=qbi) (low:=low) (u:=v) (u1:=v1) (v:=u) (v1:=u1) i2 i1 d;exact qk0 hb ha lK h4 h1
 have Ln:even=false→(v1+v)*b≤(u1+u)*a:=fun e=>by
  obtain⟨h3,h4⟩:=qhs i1 i2 (det.1 e);refine qk0 (d:=qbi-low) hb ha lK ?_ h2;rw[Nat.add_mul,Nat.add_mul];omega
 have Lo:even=true→(u1+u)*a≤(v1+v)*b:=fun e=>by
  obtain⟨h3,h4⟩:=qhs (qbi:=qbi) (low:=low) (u:=v) (u1:=v1) (v:=u) (v1:=u1) i2 i1 (det.2 e);refine qk0 (d:=qbi-low) ha hb aD ?_ ?_
  ·rw[Nat.add_mul,Nat.add_mul];omega
  ·rcases first with f|⟨_,_,_,_,f⟩
   ·omega
   ·rw[e] at f;cases f
 generalize qbi/low=q at *;generalize qbi % low=r at *;refine⟨?_, ?_, ?_, ?_, ?_,Nat.le_of_lt hmod,.inl uv, ?_, ?_⟩
 ·rw[←i1,←hq,Nat.mul_add,Nat.add_mul]
  have:low*(q*v)=low*q*v:=(Nat.mul_assoc _ _ _).symm;omega
 ·rw[←i2,←hq,Nat.mul_add,Nat.add_mul]
  have:low*(q*u)=low*q*u:=(Nat.mul_assoc _ _ _).symm;omega
 ·constructor
  ·intro e
   have e':even=true:=by cases even<;>simp_all
   have:=det.2 e';rw[Nat.add_mul,Nat.add_mul];have:q*v*u=q*u*v:=by grind
   grind
  ·intro e
   have e':even=false:=by cases even<;>simp_all
   have:=det.1 e';rw[Nat.add_mul,Nat.add_mul];have:q*v*u=q*u*v:=by grind
   grind
 ·have h5:q*u≤q*v:=Nat.mul_le_mul_left _ uv
  rcases first with f|⟨f1,f2,f3,f4,_⟩
  ·omega
  ·subst f1 f2 f3 f4;simp;omega
 ·have:1*1≤q*v:=Nat.mul_le_mul tI v1'
  omega
 ·constructor
  ·intro e
   exact qJ (by cases even<;>simp_all)
  ·intro e
   exact Cs (by cases even<;>simp_all)
 ·rcases Nat.eq_zero_or_pos v1 with z|z
  ·exact .inl z
  ·refine .inr ⟨v1', ?_, ?_⟩
   ·intro e
    have e':even=false:=by cases even<;>simp_all
    refine⟨by rw[Nat.mul_comm,det.1 e'],nonneg.1 e',Cs e',Ln e'⟩
   ·intro e
    have e':even=true:=by cases even<;>simp_all
    refine⟨by rw[det.2 e',Nat.mul_comm],nonneg.2 e',qJ e',Lo e'⟩
theorem qoc{a b h l qbi low u0 u1 v0 v1 u v B:Nat}{even:Bool}(I:q9d a b h l qbi low u0 u1 v0 v1 u v even)(hh:h<B)(hl:l≤h)(hh0:0<h)(h1:v≤low):
  v1+v<B∧u1+qbi/low*u<B∧v1+qbi/low*v<B∧qbi/low*u<B∧qbi/low*v<B:=by
 obtain⟨i1,i2,det,uv,v1',dS,first,nonneg,_⟩:=I;have lL:0<low:=by omega
 have a1:1*v≤qbi*v:=Nat.mul_le_mul_right _ (by omega);have a2:1*v1≤low*v1:=Nat.mul_le_mul_right _ lL;have a3:1*u1≤low*u1:=Nat.mul_le_mul_right _ lL;have a4:qbi/low*u≤qbi*u:=Nat.mul_le_mul_right _ (Nat.div_le_self _ _);have a5:qbi/low*v≤qbi*v:=Nat.mul_le_mul_right _ (Nat.div_le_self _ _);have _:=hh0;omega
theorem q0l{a b u0 u1 v0 v1:Nat}{even:Bool}(R:Rec a b u0 u1 v0 v1 even)(hv:v0≠0):
  (even=true→v0*b≤u0*a∧u1*a≤v1*b∧Nat.gcd (a*u0-b*v0) (b*v1-a*u1)=Nat.gcd a b∧b*v1-a*u1≤a*u0-b*v0∧(a*u0-b*v0)+(b*v1-a*u1)≤a)∧
  (even=false→u0*a≤v0*b∧v1*b≤u1*a∧Nat.gcd (b*v0-a*u0) (a*u1-b*v1)=Nat.gcd a b∧a*u1-b*v1≤b*v0-a*u0∧(b*v0-a*u0)+(a*u1-b*v1)≤a):=by
 rcases R with R|⟨lM,R1,R2⟩
 ·exact absurd R hv
 have key:∀x y:Nat,a=v1*x+v0*y→b=u1*x+u0*y→(∀d,d∣a→d∣b→d∣x∧d∣y)→Nat.gcd x y=Nat.gcd a b∧x+y≤a:=by
  intro x y e1 e2 hd;constructor
  ·apply Nat.dvd_antisymm
   ·apply Nat.dvd_gcd
    ·rw[e1];exact Nat.dvd_add (Nat.dvd_mul_left_of_dvd (Nat.gcd_dvd_left _ _) _) (Nat.dvd_mul_left_of_dvd (Nat.gcd_dvd_right _ _) _)
    ·rw[e2];exact Nat.dvd_add (Nat.dvd_mul_left_of_dvd (Nat.gcd_dvd_left _ _) _) (Nat.dvd_mul_left_of_dvd (Nat.gcd_dvd_right _ _) _)
   ·obtain⟨h1,h2⟩:=hd _ (Nat.gcd_dvd_left a b) (Nat.gcd_dvd_right a b)
    exact Nat.dvd_gcd h1 h2
  ·have h1:1*x≤v1*x:=Nat.mul_le_mul_right _ lM
   have h2:1*y≤v0*y:=Nat.mul_le_mul_right _ (by omega);omega
 constructor
 ·intro e
  obtain⟨d,h1,h2,h3⟩:=R1 e;refine⟨h1,h2, ?_⟩;obtain⟨x,hx⟩:∃x,u0*a=v0*b+x:=⟨u0*a-v0*b,by omega⟩;obtain⟨y,hy⟩:∃y,v1*b=u1*a+y:=⟨v1*b-u1*a,by omega⟩;have ex:a*u0-b*v0=x:=by rw[Nat.mul_comm a,Nat.mul_comm b];omega
  have ey:b*v1-a*u1=y:=by rw[Nat.mul_comm a,Nat.mul_comm b];omega
  rw[ex,ey];have e1:a=v1*x+v0*y:=by grind
  have e2:b=u1*x+u0*y:=by grind
  obtain⟨k1,k2⟩:=key x y e1 e2 (fun dd ha hb'=>by
   constructor
   ·exact(Nat.dvd_add_right (Nat.dvd_mul_left_of_dvd hb' v0)).1 (by rw[←hx];exact Nat.dvd_mul_left_of_dvd ha _)
   ·exact(Nat.dvd_add_right (Nat.dvd_mul_left_of_dvd ha u1)).1 (by rw[←hy];exact Nat.dvd_mul_left_of_dvd hb' _))
  refine⟨k1, ?_,k2⟩;rw[Nat.add_mul,Nat.add_mul] at h3;omega
 ·intro e
  obtain⟨d,h1,h2,h3⟩:=R2 e;refine⟨h1,h2, ?_⟩;obtain⟨x,hx⟩:∃x,v0*b=u0*a+x:=⟨v0*b-u0*a,by omega⟩;obtain⟨y,hy⟩:∃y,u1*a=v1*b+y:=⟨u1*a-v1*b,by omega⟩;have ex:b*v0-a*u0=x:=by rw[Nat.mul_comm a,Nat.mul_comm b];omega
  have ey:a*u1-b*v1=y:=by rw[Nat.mul_comm a,Nat.mul_comm b];omega
  rw[ex,ey];have e1:a=v1*x+v0*y:=by grind
  have e2:b=u1*x+u0*y:=by grind
  obtain⟨k1,k2⟩:=key x y e1 e2 (fun dd ha hb'=>by
   constructor
   ·exact(Nat.dvd_add_right (Nat.dvd_mul_left_of_dvd ha u0)).1 (by rw[←hx];exact Nat.dvd_mul_left_of_dvd hb' _)
   ·exact(Nat.dvd_add_right (Nat.dvd_mul_left_of_dvd hb' v1)).1 (by rw[←hy];exact Nat.dvd_mul_left_of_dvd ha _))
  refine⟨k1, ?_,k2⟩;rw[Nat.add_mul,Nat.add_mul] at h3;omega
theorem ql3(q:Rat)(n:Int)(d:Nat)(hd:d≠0)(hc:n.natAbs.Coprime d)(h:q=mkRat n d):q.num=n∧q.den=d:=by
 rw[←Rat.mk_eq_mkRat n d hd hc] at h;rw[h];exact⟨rfl,rfl⟩
theorem qfy(z:Int)(c:Nat)(hc:0<c)(hd:c∣z.natAbs):∃n:Int,n*c=z∧n.natAbs=z.natAbs/c∧(n<0↔z<0):=by
 obtain⟨k,hk⟩:=hd;rw[hk,Nat.mul_div_cancel_left _ hc];rcases Int.lt_or_le z 0 with h|h
 ·refine⟨-(k:Int), ?_,by simp, ?_⟩
  ·have:(z.natAbs:Int) = -z:=by omega
   rw[hk,Int.natCast_mul] at this;have e : -(k:Int)*c = -((c:Int)*k):=by grind
   omega
  ·constructor
   ·intro _;exact h
   ·intro _
    have:0<k:=by
     rcases Nat.eq_zero_or_pos k with e|e
     ·rw[e,Nat.mul_zero] at hk;omega
     ·exact e
    omega
 ·refine⟨(k:Int), ?_,by simp, ?_⟩
  ·have:(z.natAbs:Int)=z:=by omega
   rw[hk,Int.natCast_mul] at this;have e:(k:Int)*c=(c:Int)*k:=by grind
   omega
  ·constructor<;>intro _<;>omega
theorem qyc(a b:Rat)(z:Int)(hz:z=a.num*((b.den/a.den.gcd b.den:Nat):Int)+b.num*((a.den/a.den.gcd b.den:Nat):Int)):
  (a+b).num.natAbs=z.natAbs/z.natAbs.gcd (a.den.gcd b.den)∧((a+b).num<0↔z<0)∧(a+b).den=a.den/a.den.gcd b.den*(b.den/z.natAbs.gcd (a.den.gcd b.den)):=by
 have rL:0<a.den.gcd b.den:=Nat.gcd_pos_of_pos_left _ a.den_pos;have As:=Rat.add.aux a b (g:=a.den.gcd b.den) rfl rfl rfl;simp only at As;rw[←hz] at As;have hLg:a.den/a.den.gcd b.den*a.den.gcd b.den=a.den:=Nat.div_mul_cancel (Nat.gcd_dvd_left _ _);have hRg:b.den/a.den.gcd b.den*a.den.gcd b.den=b.den:=Nat.div_mul_cancel (Nat.gcd_dvd_right _ _);have uG:a.den.gcd b.den∣b.den:=Nat.gcd_dvd_right _ _;have Lp:=Rat.add_def a b;rw[Rat.normalize_eq_mkRat] at Lp;have Lq:0<a.den/a.den.gcd b.den:=Nat.div_pos (Nat.le_of_dvd a.den_pos (Nat.gcd_dvd_left _ _)) rL;have hbp:=b.den_pos;have hap:=a.den_pos;generalize a.den.gcd b.den=g at *;generalize a.den/g=L at *;generalize b.den/g=R at *;have fA:0<z.natAbs.gcd g:=Nat.gcd_pos_of_pos_right _ rL;have At:z.natAbs.gcd g∣b.den:=Nat.dvd_trans (Nat.gcd_dvd_right _ _) uG;obtain⟨n,dT,lC,hn3⟩:=qfy z (z.natAbs.gcd g) fA (Nat.gcd_dvd_left _ _);have hd:L*(b.den/z.natAbs.gcd g)=(L*b.den)/z.natAbs.gcd g:=(Nat.mul_div_assoc L At).symm
 have qK:n.natAbs.Coprime (L*(b.den/z.natAbs.gcd g)):=by
  rw[lC,hd,As];exact Nat.coprime_div_gcd_div_gcd (Nat.gcd_pos_of_pos_right _ (Nat.mul_pos Lq hbp))
 have hcd:b.den/z.natAbs.gcd g*z.natAbs.gcd g=b.den:=Nat.div_mul_cancel At
 have Ct:L*(b.den/z.natAbs.gcd g)≠0:=by
  have:0<b.den/z.natAbs.gcd g:=Nat.div_pos (Nat.le_of_dvd hbp At) fA;exact Nat.ne_of_gt (Nat.mul_pos Lq this)
 clear qK
 have hq:a+b=mkRat n (L*(b.den/z.natAbs.gcd g)):=by
  rw[Lp];refine(Rat.mkRat_eq_iff (Nat.ne_of_gt (Nat.mul_pos hap hbp)) Ct).2 ?_;generalize b.den/z.natAbs.gcd g=e at *;generalize z.natAbs.gcd g=c at *;have oG:(c:Int)≠0:=by omega
  apply Int.eq_of_mul_eq_mul_right oG;have e1:((a.den:Nat):Int)=(L:Int)*g:=by rw[←Int.natCast_mul,hLg]
  have e2:((b.den:Nat):Int)=(R:Int)*g:=by rw[←Int.natCast_mul,hRg]
  have e3:((b.den:Nat):Int)=(e:Int)*c:=by rw[←Int.natCast_mul,hcd]
  rw[Int.natCast_mul,Int.natCast_mul]
  have h1:(a.num*(b.den:Int)+b.num*(a.den:Int))*((L:Int)*e)*c=(a.num*((R:Int)*g)+b.num*((L:Int)*g))*((L:Int)*(b.den:Int)):=by
   rw[e1,e2] at *
   grind
  have h2:n*((a.den:Int)*(b.den:Int))*c=z*((L:Int)*g*(b.den:Int)):=by
   rw[e1,←dT]
   grind
  rw[h1,h2,hz]
  grind
 have qK:n.natAbs.Coprime (L*(b.den/z.natAbs.gcd g)):=by
  rw[lC,hd,As];exact Nat.coprime_div_gcd_div_gcd (Nat.gcd_pos_of_pos_right _ (Nat.mul_pos Lq hbp))
 obtain⟨h1,h2⟩:=ql3 _ n _ Ct qK hq;rw[h1,h2];exact⟨lC,hn3,rfl⟩
theorem q4u(x y:Int):x*y<0↔(decide (x<0) != decide (y<0))=true∧x.natAbs*y.natAbs≠0:=by
 have hz:x.natAbs*y.natAbs≠0↔x≠0∧y≠0:=by
  constructor
  ·intro h
   exact⟨fun e=>h (by rw[e];simp),fun e=>h (by rw[e];simp)⟩
  ·rintro⟨h1,h2⟩
   exact Nat.mul_ne_zero (by omega) (by omega)
 rw[hz];rcases Int.lt_trichotomy x 0 with h|h|h<;>rcases Int.lt_trichotomy y 0 with k|k|k
 ·have:=Int.mul_pos_of_neg_of_neg h k
  rw[decide_eq_true h,decide_eq_true k];constructor
  ·intro;omega
  ·rintro⟨h1,_⟩;cases h1
 ·subst k;simp
 ·have:=Int.mul_neg_of_neg_of_pos h k
  rw[decide_eq_true h,decide_eq_false (by omega:¬y<0)];exact⟨fun _=>⟨rfl,by omega,by omega⟩,fun _=>this⟩
 ·subst h;simp
 ·subst h;simp
 ·subst h;simp
 ·have:=Int.mul_neg_of_pos_of_neg h k
  rw[decide_eq_false (by omega:¬x<0),decide_eq_true k];exact⟨fun _=>⟨rfl,by omega,by omega⟩,fun _=>this⟩
 ·subst k;simp
 ·have:=Int.mul_pos h k
  rw[decide_eq_false (by omega:¬x<0),decide_eq_false (by omega:¬y<0)];constructor
  ·intro;omega
  ·rintro⟨h1,_⟩;cases h1
theorem qke(a b:Rat)(na nb:Nat)(ha:na=a.num.natAbs)(hb:nb=b.num.natAbs):
  (a*b).num.natAbs=na/na.gcd b.den*(nb/nb.gcd a.den)∧(a*b).den=a.den/nb.gcd a.den*(b.den/na.gcd b.den)∧
  ((a*b).num<0↔(decide (a.num<0) != decide (b.num<0))=true∧na/na.gcd b.den*(nb/nb.gcd a.den)≠0):=by
 subst ha hb;have jO:0<a.num.natAbs.gcd b.den:=Nat.gcd_pos_of_pos_right _ b.den_pos;have sD:0<b.num.natAbs.gcd a.den:=Nat.gcd_pos_of_pos_right _ a.den_pos;obtain⟨x,oY,pU,hx3⟩:=qfy a.num _ jO (Nat.gcd_dvd_left _ _);obtain⟨y,uF,xO,hy3⟩:=qfy b.num _ sD (Nat.gcd_dvd_left _ _);have fZ:a.den/b.num.natAbs.gcd a.den*b.num.natAbs.gcd a.den=a.den:=Nat.div_mul_cancel (Nat.gcd_dvd_right _ _);have gH:b.den/a.num.natAbs.gcd b.den*a.num.natAbs.gcd b.den=b.den:=Nat.div_mul_cancel (Nat.gcd_dvd_right _ _);have qL:0<a.den/b.num.natAbs.gcd a.den:=Nat.div_gcd_pos_of_pos_right _ a.den_pos;have pV:0<b.den/a.num.natAbs.gcd b.den:=Nat.div_gcd_pos_of_pos_right _ b.den_pos
 have qK:(x*y).natAbs.Coprime (a.den/b.num.natAbs.gcd a.den*(b.den/a.num.natAbs.gcd b.den)):=by
  rw[Int.natAbs_mul,pU,xO];rw[Nat.coprime_mul_iff_left];refine⟨Nat.coprime_mul_iff_right.2 ⟨?_, ?_⟩,Nat.coprime_mul_iff_right.2 ⟨?_, ?_⟩⟩
  ·exact(a.reduced.coprime_div_left (Nat.gcd_dvd_left ..)).coprime_div_right (Nat.gcd_dvd_right ..)
  ·exact Nat.coprime_div_gcd_div_gcd jO
  ·exact Nat.coprime_div_gcd_div_gcd sD
  ·exact(b.reduced.coprime_div_left (Nat.gcd_dvd_left ..)).coprime_div_right (Nat.gcd_dvd_right ..)
 have Ct:a.den/b.num.natAbs.gcd a.den*(b.den/a.num.natAbs.gcd b.den)≠0:=Nat.ne_of_gt (Nat.mul_pos qL pV)
 have hq:a*b=mkRat (x*y) (a.den/b.num.natAbs.gcd a.den*(b.den/a.num.natAbs.gcd b.den)):=by
  rw[Rat.mul_def,Rat.normalize_eq_mkRat];refine(Rat.mkRat_eq_iff (Nat.ne_of_gt (Nat.mul_pos a.den_pos b.den_pos)) Ct).2 ?_;clear qK pU xO;generalize a.num.natAbs.gcd b.den=g1 at *;generalize b.num.natAbs.gcd a.den=g2 at *;generalize a.den/g2=da at *;generalize b.den/g1=db at *;have e1:((a.den:Nat):Int)=(da:Int)*g2:=by rw[←Int.natCast_mul,fZ]
  have e2:((b.den:Nat):Int)=(db:Int)*g1:=by rw[←Int.natCast_mul,gH]
  rw[Int.natCast_mul,Int.natCast_mul,e1,e2,←oY,←uF]
  grind
 obtain⟨h1,h2⟩:=ql3 _ _ _ Ct qK hq;rw[h1,h2];refine⟨by rw[Int.natAbs_mul,pU,xO],rfl, ?_⟩;rw[←pU,←xO];rw[←decide_eq_decide.2 hx3,←decide_eq_decide.2 hy3];exact q4u x y
def qiy(lt:Int→Int→Bool)(s:List Int)(x:Int):Nat→List Int
 | 0=>x::s
 | j+1=>if lt x (s.getD j 0) then qiy lt s x j else s.take (j+1)++x::s.drop (j+1)
def qga(lt:Int→Int→Bool)(xs:List Int):List Int:=xs.foldl (fun s x=>qiy lt s x s.length) []
theorem qyd(lt:Int→Int→Bool)(s:List Int)(x:Int)(j:Nat)(hj:j≤s.length):∃m,m≤j∧qiy lt s x j=s.take m++x::s.drop m∧(m=0∨lt x (s.getD (m-1) 0)=false)∧∀i,m≤i→i<j→lt x (s.getD i 0)=true:=by
 induction j with
 | zero=>exact⟨0,Nat.le_refl _,rfl,.inl rfl,fun i h1 h2=>by omega⟩
 | succ j ih=>
  unfold qiy;by_cases h:lt x (s.getD j 0)=true
  ·rw[if_pos h]
   obtain⟨m,h1,h2,h3,h4⟩:=ih (by omega);refine⟨m,by omega,h2,h3,fun i h5 h6 => ?_⟩;by_cases e:i=j
   ·rw[e];exact h
   ·exact h4 i h5 (by omega)
  ·rw[if_neg h]
   exact⟨j+1,Nat.le_refl _,rfl,.inr (by simpa using h),fun i h1 h2=>by omega⟩
theorem qye(lt:Int→Int→Bool)(s:List Int)(x:Int)(j:Nat)(hj:j≤s.length):(qiy lt s x j).Perm (x::s):=by
 obtain⟨m,h1,h2,_⟩:=qyd lt s x j hj;rw[h2];refine List.perm_middle.trans ?_;rw[List.take_append_drop]
theorem qqe(lt:Int→Int→Bool)(xs:List Int)(x:Int):qga lt (xs++[x])=qiy lt (qga lt xs) x (qga lt xs).length:=by
 unfold qga;rw[List.foldl_append];rfl
theorem qk1{α:Type}{P:List α→Prop}(h0:P [])(h1:∀l x,P l→P (l++[x]))(l:List α):P l:=by
 have:∀l:List α,P l.reverse:=by
  intro l
  induction l with
  | nil=>exact h0
  | cons x l ih=>rw[List.reverse_cons];exact h1 _ _ ih
 have h:=this l.reverse
 rwa [List.reverse_reverse] at h
theorem ql4(lt:Int→Int→Bool)(xs:List Int):(qga lt xs).Perm xs:=by
 induction xs using qk1 with
 | h0=>exact List.Perm.refl _
 | h1 l x ih=>
  rw[qqe];exact(qye lt _ x _ (Nat.le_refl _)).trans ((List.Perm.cons x ih).trans (List.perm_append_singleton x l).symm)
theorem qm4(lt:Int→Int→Bool)(xs:List Int):(qga lt xs).length=xs.length:=(ql4 lt xs).length_eq
theorem q0m(s tail:List Int)(x:Int)(m:Nat)(hm:m<s.length):
  ((s.take (m+1)++x::s.drop (m+1)++tail).set (m+1) (s.getD m 0)).set m x=s.take m++x::s.drop m++tail:=by
 have h1:s.take (m+1)=s.take m++[s[m]]:=List.take_succ_eq_append_getElem hm;have h2:s.drop m=s[m]::s.drop (m+1):=List.drop_eq_getElem_cons hm;have h3:s.getD m 0=s[m]:=by rw[List.getD_eq_getElem?_getD,List.getElem?_eq_getElem hm,Option.getD_some]
 have hl:(s.take m).length=m:=by rw[List.length_take];omega
 rw[h1,h2,h3];generalize s[m]=y;generalize s.drop (m+1)=d;generalize hp:s.take m=p at *;subst hl;have e1:p++[y]++x::d++tail=p++y::x::(d++tail):=by simp
 have e2:p++x::y::d++tail=p++x::y::(d++tail):=by simp
 rw[e1,e2];rw[List.set_append_right _ _ (by omega),Nat.add_sub_cancel_left,List.set_append_right _ _ (Nat.le_refl _),Nat.sub_self];rfl
theorem qut(s tail:List Int)(x:Int)(m:Nat)(hm:m<s.length):(s.take (m+1)++x::s.drop (m+1)++tail).getD m 0=s.getD m 0:=by
 rw[List.append_assoc];simp only[List.getD_eq_getElem?_getD];rw[List.getElem?_append_left (by rw[List.length_take];omega),List.getElem?_take_of_lt (by omega)]
theorem qsm(s tail:List Int)(x:Int)(m:Nat)(hm:m≤s.length):(s.take m++x::s.drop m++tail).getD m 0=x:=by
 have hl:(s.take m).length=m:=by rw[List.length_take];omega
 rw[List.append_assoc];simp only[List.getD_eq_getElem?_getD];rw[List.getElem?_append_right (by omega),hl,Nat.sub_self];rfl
theorem qyf(lt:Int→Int→Bool)(s:List Int)(x:Int):qiy lt s x 0=s.take 0++x::s.drop 0:=by
 simp[qiy]
theorem q0n(lt:Int→Int→Bool)(s:List Int)(x:Int)(m:Nat)(h:lt x (s.getD m 0)=true):qiy lt s x (m+1)=qiy lt s x m:=by
 show(if _ then _ else _)=_;rw[if_pos h]
theorem q4v(lt:Int→Int→Bool)(s:List Int)(x:Int)(m:Nat)(h:lt x (s.getD m 0)=false):qiy lt s x (m+1)=s.take (m+1)++x::s.drop (m+1):=by
 show(if _ then _ else _)=_;rw[if_neg (by rw[h];decide)]
end Go.Proofs.YtmcfcpgglfimjaaGreatDoor
