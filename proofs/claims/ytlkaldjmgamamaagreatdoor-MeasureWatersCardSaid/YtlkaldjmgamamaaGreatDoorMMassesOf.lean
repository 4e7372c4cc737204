/- The map of the masses of lots. -/
import Derived.Test.YtlkaldjmgamamaaGreatDoorMShare
import Derived.Test.YtlkaldjmgamamaaGreatDoorMEachLayer
import Derived.Test.YtlkaldjmgamamaaGreatDoorMMean
import Derived.Carry
import Derived.Test.YtlkaldjmgamamaaGreatDoorIter
set_option linter.all false
namespace Go.Proofs.YtlkaldjmgamamaaGreatDoor
open Go.RowKit
set_option maxRecDepth 100000
set_option maxHeartbeats 8000000
abbrev Ent:=List (ByteArray × NV × Rat)
def qiu(W:World)(r:Nat)(E:Ent):Prop:=qo7 W r (E.map fun e=>(e.1,.agg #[.bool e.2.1.b,.slice e.2.1.p e.2.1.k e.2.1.c,.slice e.2.1.q e.2.1.j e.2.1.d]))∧∀e ∈ E,qai W (.agg #[.bool e.2.1.b,.slice e.2.1.p e.2.1.k e.2.1.c,.slice e.2.1.q e.2.1.j e.2.1.d]) e.2.2
def qkc(E:Ent):List (ByteArray × Rat):=E.map fun e=>(e.1,e.2.2)
def q60:NV:=⟨false,none,0,0,none,0,0⟩
def qiv(E:Ent)(k:ByteArray):NV:=((E.find? fun e=>k==e.1).map (·.2.1)).getD q60
def qkx(E:Ent)(k:ByteArray):Rat:=((E.find? fun e=>k==e.1).map (·.2.2)).getD 0
def q4s(E:Ent)(k:ByteArray)(z:NV)(d:Rat):Ent:=
 if E.any (fun e=>k==e.1) then E.map (fun e=>if k==e.1 then(e.1,z,qkx E k+d) else e) else E++[(k,z,qkx E k+d)]
def q2h(D:List (ByteArray × Rat))(k:ByteArray)(d:Rat):List (ByteArray × Rat):=
 if D.any (fun p=>k==p.1) then D.map (fun p=>if k==p.1 then(p.1,p.2+d) else p) else D++[(k,0+d)]
theorem qiu.later{W W':World}{r:Nat}{E:Ent}(h:qiu W r E)(hb:Below W.heap.size W W'):qiu W' r E:=⟨h.1.later hb,fun e he=>(h.2 e he).later hb⟩
theorem qo7.nodup{W:World}{r:Nat}{D:List (ByteArray × Value)}(h:qo7 W r D):(D.map (·.1)).Nodup:=by
 obtain⟨es,clock,_,h2,h3⟩:=h
 have e:es.toList.map (·.key)=(D.map (·.1)).map Value.string:=by
  have:=congrArg (List.map Prod.fst) h2;rw[List.map_map,List.map_map] at this;rw[List.map_map];exact this
 have hnd:=h3.2.2;rw[e] at hnd;exact(List.pairwise_map.1 hnd).imp (fun hne he=>hne (congrArg Value.string he))
theorem qzu{E:Ent}(h:(E.map (·.1)).Nodup){e f:ByteArray × NV × Rat}(he:e ∈ E)(hf:f ∈ E)(hk:e.1=f.1):e=f:=by
 induction E with
 | nil=>cases he
 | cons a E ih=>
  rw[List.map_cons,List.nodup_cons] at h;rcases List.mem_cons.1 he with rfl|he'
  ·rcases List.mem_cons.1 hf with rfl|hf'
   ·rfl
   ·exact absurd (hk▸List.mem_map_of_mem (f:=(·.1)) hf') h.1
  ·rcases List.mem_cons.1 hf with rfl|hf'
   ·exact absurd (hk▸List.mem_map_of_mem (f:=(·.1)) he') h.1
   ·exact ih h.2 he' hf'
theorem qn5{E:Ent}{k:ByteArray}:(E.find? fun e=>k==e.1)=none∧E.any (fun e=>k==e.1)=false∨∃e,(E.find? fun e=>k==e.1)=some e∧e ∈ E∧e.1=k∧E.any (fun e=>k==e.1)=true:=by
 cases h:E.find? fun e=>k==e.1 with
 | none=>
  left
  refine⟨rfl, ?_⟩;rw[List.any_eq_false];intro e he;have:=List.find?_eq_none.1 h e he;exact this
 | some e=>
  right
  refine⟨e,rfl,List.mem_of_find?_eq_some h, ?_, ?_⟩
  ·exact((qei _ _).1 (List.find?_some (p:=fun e:ByteArray × NV × Rat=>k==e.1) h)).symm
  ·rw[List.any_eq_true]
   exact⟨e,List.mem_of_find?_eq_some h,List.find?_some (p:=fun e:ByteArray × NV × Rat=>k==e.1) h⟩
theorem qiu.nodup{W:World}{r:Nat}{E:Ent}(h:qiu W r E):(E.map (·.1)).Nodup:=by
 have:=h.1.nodup;rw[List.map_map] at this;exact this
theorem qj2{E:Ent}{k:ByteArray}{e:ByteArray × NV × Rat}(h:(E.find? fun e=>k==e.1)=some e):qkx E k=e.2.2∧qiv E k=e.2.1:=by
 unfold qkx qiv;rw[h];exact⟨rfl,rfl⟩
theorem qj3{E:Ent}{k:ByteArray}(h:(E.find? fun e=>k==e.1)=none):qkx E k=0∧qiv E k=q60:=by
 unfold qkx qiv;rw[h];exact⟨rfl,rfl⟩
theorem qt0(E:Ent)(k:ByteArray):qlr (E.map fun e=>(e.1,Value.agg #[.bool e.2.1.b,.slice e.2.1.p e.2.1.k e.2.1.c,.slice e.2.1.q e.2.1.j e.2.1.d])) k=(E.find? fun e=>k==e.1).map fun e=>Value.agg #[.bool e.2.1.b,.slice e.2.1.p e.2.1.k e.2.1.c,.slice e.2.1.q e.2.1.j e.2.1.d]:=by
 unfold qlr;rw[List.find?_map,Option.map_map];rfl
theorem qhw{W:World}{r:Nat}{E:Ent}(h:qiu W r E)(k:ByteArray):
  (Instr.lookup 120 (.map (some r)) (.string k) false).run Tryz.prog W = .ok (.agg #[.bool (qiv E k).b,.slice (qiv E k).p (qiv E k).k (qiv E k).c,.slice (qiv E k).q (qiv E k).j (qiv E k).d]) W∧qai W (.agg #[.bool (qiv E k).b,.slice (qiv E k).p (qiv E k).k (qiv E k).c,.slice (qiv E k).q (qiv E k).j (qiv E k).d]) (qkx E k):=by
 rcases qn5 (E:=E) (k:=k) with⟨h1,_⟩|⟨e,h1,h2,h3,_⟩
 ·obtain⟨q1,q2⟩:=qj3 h1
  rw[q1,q2];refine⟨(qd7 W 120 9 72 Tryz.underlying120 Tryz.underlying9 r _ h.1.smap k (.agg #[.bool false,.slice none 0 0,.slice none 0 0]) (by kernel_rfl) (by rw[qt0,h1];rfl)).2, ?_⟩;exact qmy W
 ·obtain⟨q1,q2⟩:=qj2 h1
  rw[q1,q2];exact⟨(qcf W 120 9 72 Tryz.underlying120 Tryz.underlying9 r _ h.1.smap k _ (by rw[qt0,h1];rfl)).2,h.2 e h2⟩
theorem q5w(E:Ent)(k:ByteArray)(z:NV)(d:Rat):q9r (E.map fun e=>(e.1,Value.agg #[.bool e.2.1.b,.slice e.2.1.p e.2.1.k e.2.1.c,.slice e.2.1.q e.2.1.j e.2.1.d])) k (.agg #[.bool z.b,.slice z.p z.k z.c,.slice z.q z.j z.d])=(q4s E k z d).map fun e=>(e.1,Value.agg #[.bool e.2.1.b,.slice e.2.1.p e.2.1.k e.2.1.c,.slice e.2.1.q e.2.1.j e.2.1.d]):=by
 have hany:(E.map fun e=>(e.1,Value.agg #[.bool e.2.1.b,.slice e.2.1.p e.2.1.k e.2.1.c,.slice e.2.1.q e.2.1.j e.2.1.d])).any (fun p=>k==p.1)=E.any (fun e=>k==e.1):=by rw[List.any_map];rfl
 unfold q9r q4s;rw[hany];by_cases h:E.any (fun e=>k==e.1)=true
 ·rw[if_pos h,if_pos h,List.map_map,List.map_map]
  refine List.map_congr_left fun e _ => ?_;show(if(k==e.1)=true then _ else _)=_;by_cases hk:(k==e.1)=true
  ·simp[hk]
  ·simp[hk]
 ·rw[if_neg h,if_neg h,List.map_append]
  rfl
theorem q2i{W:World}{r:Nat}{E:Ent}(h:qiu W r E)(k:ByteArray)(z:NV)(d:Rat):qkc (q4s E k z d)=q2h (qkc E) k d:=by
 have hany:(qkc E).any (fun p=>k==p.1)=E.any (fun e=>k==e.1):=by unfold qkc;rw[List.any_map];rfl
 unfold q2h;rw[hany];unfold qkc q4s;rcases qn5 (E:=E) (k:=k) with⟨h1,h2⟩|⟨e,h1,h2,h3,h4⟩
 ·rw[if_neg (by rw[h2];decide),if_neg (by rw[h2];decide),List.map_append,(qj3 h1).1]
  rfl
 ·rw[if_pos h4,if_pos h4,List.map_map,List.map_map]
  refine List.map_congr_left fun f hf => ?_;show _=(if(k==f.1)=true then _ else _);by_cases hk:(k==f.1)=true
  ·have hfe:=qzu h.nodup hf h2 (by rw[h3];exact((qei _ _).1 hk).symm)
   subst hfe;simp[hk,(qj2 h1).1]
  ·simp[hk]
theorem qni{W:World}{r b o:Nat}{D:List (ByteArray × Value)}{v:Value}(h:qo7 W r D)(hc:W.cell? ⟨b,o,none⟩=some v):b≠r:=by
 rintro rfl;obtain⟨es,clock,h1,_⟩:=h;simp[World.cell?,h1] at hc
theorem qo7.cell{W W':World}{r b o:Nat}{D:List (ByteArray × Value)}{v:Value}(h:qo7 W r D)(hch:Chg r r W W')(hc:W.cell? ⟨b,o,none⟩=some v):W'.cell? ⟨b,o,none⟩=some v:=
 hch.cell hc (qni h hc) (qni h hc)
theorem qo7.nat{W W':World}{r:Nat}{D:List (ByteArray × Value)}{v:Value}{n:Nat}(h:qo7 W r D)(hch:Chg r r W W')(hn:qar W v n):qar W' v n:=by
 obtain⟨h1,q,c,h2,h3,h4,h5⟩:=hn;refine⟨h1,q,c,h2,h3,h4, ?_⟩;rcases h5 with h5|⟨b,o,h6,h7⟩
 ·exact .inl h5
 ·exact .inr ⟨b,o,h6,fun i hi=>h.cell hch (h7 i hi)⟩
theorem qo7.num{W W':World}{r:Nat}{D:List (ByteArray × Value)}{v:Value}{q:Rat}(h:qo7 W r D)(hch:Chg r r W W')(hn:qai W v q):qai W' v q:=by
 obtain⟨t,b,e,h1,h2⟩:=hn;exact⟨t,b,e,h.nat hch h1,h.nat hch h2⟩
theorem q5x{W:World}{r:Nat}{E:Ent}(h:qiu W r E)(k:ByteArray)(z:NV)(d:Rat)(hz:qai W (.agg #[.bool z.b,.slice z.p z.k z.c,.slice z.q z.j z.d]) (qkx E k+d)):
  ∃w',(Instr.mapUpdate 120 (.map (some r)) (.string k) (.agg #[.bool z.b,.slice z.p z.k z.c,.slice z.q z.j z.d])).run Tryz.prog W = .ok () w'∧qiu w' r (q4s E k z d)∧Chg r r W w'∧w'.heap.size=W.heap.size:=by
 obtain⟨w',h1,h2,h3,h4,h5⟩:=q5s (P:=Tryz.prog) W 120 9 72 Tryz.underlying120 Tryz.underlying9 r _ h.1 k (.agg #[.bool z.b,.slice z.p z.k z.c,.slice z.q z.j z.d]);have hch:Chg r r W w':=⟨by rw[Nat.min_self];exact h3,fun j _ hj _=>h5 j hj⟩;refine⟨w',h1,⟨by rw[←q5w E k z d];exact h2,fun e he => ?_⟩,hch,h4⟩;unfold q4s at he;split at he
 ·rw[List.mem_map] at he
  obtain⟨f,hf,rfl⟩:=he;split
  ·exact h.1.num hch hz
  ·exact h.1.num hch (h.2 f hf)
 ·rw[List.mem_append,List.mem_singleton] at he
  rcases he with he|rfl
  ·exact h.1.num hch (h.2 e he)
  ·exact h.1.num hch hz
theorem q8e{E:Ent}{k:ByteArray}{z:NV}{d:Rat}{m n:Nat}(h:∀e ∈ E,bd e.2.2 m)(hm:1≤m)(hd:bd d n):∀e ∈ q4s E k z d,bd e.2.2 (m+n+1):=by
 have hl:bd (qkx E k) m:=by
  rcases qn5 (E:=E) (k:=k) with⟨h1,_⟩|⟨e,h1,h2,_⟩
  ·rw[(qj3 h1).1];exact qja _ hm
  ·rw[(qj2 h1).1];exact h e h2
 intro e he;unfold q4s at he;split at he
 ·rw[List.mem_map] at he
  obtain⟨f,hf,rfl⟩:=he;split
  ·exact qnf hl hd
  ·exact(h f hf).mono (by omega)
 ·rw[List.mem_append,List.mem_singleton] at he
  rcases he with he|rfl
  ·exact(h e he).mono (by omega)
  ·exact qnf hl hd
def qfz(m:Int)(D:List (ByteArray × Rat))(ss:List (ByteArray × ByteArray)):List (ByteArray × Rat):=ss.foldl (fun D s=>q2h D s.1 (qkb s*((m:Int):Rat))) D
def qfr(ls:List Lay):List (ByteArray × Rat):=ls.foldl (fun D x=>qfz x.mass D x.shares) []
theorem qt1(m:Int)(D:List (ByteArray × Rat))(ss:List (ByteArray × ByteArray))(s:ByteArray × ByteArray):qfz m D (ss++[s])=q2h (qfz m D ss) s.1 (qkb s*((m:Int):Rat)):=by unfold qfz;rw[List.foldl_append];rfl
theorem qm0(ls:List Lay)(x:Lay):qfr (ls++[x])=qfz x.mass (qfr ls) x.shares:=by unfold qfr;rw[List.foldl_append];rfl
theorem qg5{x:Lay}(h:qdn x=0):0<x.mass∧x.mass≤999999999∧1≤x.shares.length∧x.shares.length≤64∧∀s ∈ x.shares,qaa s.2.data.toList=0:=by
 unfold qdn at h;split at h
 ·cases h
 ·split at h
  ·cases h
  ·unfold qc7 at h
   split at h
   ·cases h
   ·split at h
    ·cases h
    ·split at h
     ·rename_i h1;exact absurd h h1
     ·refine⟨by omega,by omega,by omega,by omega,fun s hs => ?_⟩
      have hz:qac (qbb ⟨#[]⟩ x.shares)=0:=by omega
      clear h
      have key:∀(l:List (ByteArray × ByteArray)) b,qac (qbb b l)=0→∀s ∈ l,qaa s.2.data.toList=0:=by
       intro l
       induction l with
       | nil=>intro b _ s hs;cases hs
       | cons a l ih=>
        intro b hf s hs;have h1:(if qax b a=0 then qac (qbb a.1 l) else qax b a)=0:=hf;by_cases ha:qax b a=0
        ·rw[if_pos ha] at h1
         rcases List.mem_cons.1 hs with rfl|hs
         ·exact qke ha
         ·exact ih _ h1 s hs
        ·rw[if_neg ha] at h1;exact absurd h1 ha
      exact key _ _ hz s hs
def qpc(s:ByteArray × ByteArray)(ms:Int)(nn gs gl gp g k j:Nat)(y:NV)(W:World):Prop:=W.cell? ⟨gs,0,none⟩=some (.string s.1)∧W.cell? ⟨gl,1,none⟩=some (.int .i64 ms)∧W.cell? ⟨gp,k,none⟩=some (.slice (some ⟨g,0,none⟩) nn nn)∧W.cell? ⟨g,j*3,none⟩=some (.bool y.b)∧W.cell? ⟨g,j*3+1,none⟩=some (.slice y.p y.k y.c)∧W.cell? ⟨g,j*3+2,none⟩=some (.slice y.q y.j y.d)
theorem qpc.later{s:ByteArray × ByteArray}{ms:Int}{nn gs gl gp g k j:Nat}{y:NV}{W W':World}(h:qpc s ms nn gs gl gp g k j y W)(hb:Below W.heap.size W W'):qpc s ms nn gs gl gp g k j y W':=by
 obtain⟨h0,h1,h2,h3,h4,h5⟩:=h;refine⟨?_, ?_, ?_, ?_, ?_, ?_⟩
 ·rw[hb.cell (World.block_lt_of_cell? W _ h0)];exact h0
 ·rw[hb.cell (World.block_lt_of_cell? W _ h1)];exact h1
 ·rw[hb.cell (World.block_lt_of_cell? W _ h2)];exact h2
 ·rw[hb.cell (World.block_lt_of_cell? W _ h3)];exact h3
 ·rw[hb.cell (World.block_lt_of_cell? W _ h4)];exact h4
 ·rw[hb.cell (World.block_lt_of_cell? W _ h5)];exact h5
theorem qpc.keep{s:ByteArray × ByteArray}{ms:Int}{nn gs gl gp g k j r:Nat}{y:NV}{W W':World}{D:List (ByteArray × Value)}(h:qpc s ms nn gs gl gp g k j y W)(hm:qo7 W r D)(hc:Chg r r W W'):qpc s ms nn gs gl gp g k j y W':=by
 obtain⟨h0,h1,h2,h3,h4,h5⟩:=h;exact⟨hm.cell hc h0,hm.cell hc h1,hm.cell hc h2,hm.cell hc h3,hm.cell hc h4,hm.cell hc h5⟩
theorem qxz{E:Ent}{k:ByteArray}{m:Nat}(h:∀e ∈ E,bd e.2.2 m)(hm:1≤m):bd (qkx E k) m:=by
 rcases qn5 (E:=E) (k:=k) with⟨h1,_⟩|⟨e,h1,h2,_⟩
 ·rw[(qj3 h1).1];exact qja _ hm
 ·rw[(qj2 h1).1];exact h e h2
theorem qt2(l:List Lay)(b o c gp:Nat)(w:World)(hrow:qfk w b o l)(hl:l.length≤64)(hok:∀x ∈ l,qdn x=0)(hr:qdb q4r w gp l.length (l.map qqu)):
  Calls Tryz.prog 70 #[.slice (some ⟨b,o,none⟩) l.length c,.slice (some ⟨gp,0,none⟩) l.length l.length] w fun e w'=>(∃E,e = .returned (.map (some w.heap.size))∧qiu w' w.heap.size E∧qkc E=qfr l∧∀e ∈ E,bd e.2.2 (602*64*64+1))∧Below w.heap.size w w':=by
 have hmm:=@run_makeMap Tryz.prog;have HROW:=hid hrow;have HOK:=hid hok;have HR:=hid hr;have HM0:=hid (q2a w);have HB0:Hid (Below w.heap.size w (w.alloc (.map #[] 0))):=hid ((Below.refl _ _).alloc (Nat.le_refl _) _);clear hrow hok hr;go_enter Tryz.func70,Tryz.ntmps70;go_wp2_with fail;clear hmm;generalize w.alloc (.map #[] 0)=w0 at *
 go_loopw [13] (fun i wr=>∃k:Nat,k≤l.length∧i = .int .i64 k∧∃E:Ent,Hid (qiu wr w.heap.size E)∧Hid (qkc E=qfr (l.take k))∧Hid (∀e ∈ E,bd e.2.2 (602*64*k+1))∧Hid (Below w.heap.size w wr)) (fun i _=>l.length-(intOf i).toNat)
 case atStart=>exact⟨0,Nat.zero_le _,rfl,[],hid ⟨HM0.out,by intro e he;cases he⟩,hid rfl,hid (by intro e he;cases he),HB0⟩
 case round=>
  obtain⟨k,hk,rfl,E0,HN,HD,HBD,HB⟩:=hrel;clear HM0 HB0;by_cases hkl:k<l.length
  ·obtain⟨x,hsk⟩:∃x,l[k]? = some x:=⟨l[k],List.getElem?_eq_getElem hkl⟩
   obtain⟨e0,e1,p,cc,e2,hv⟩:=HROW.out k x hsk;obtain⟨hm0,hm1,hs0,hs1,hsc⟩:=qg5 (HOK.out x (List.mem_of_getElem? hsk));have hc0:wr.cell? ⟨b,o+k*3,none⟩=some (.string x.grain):=by rw[HB.out.cell (World.block_lt_of_cell? w _ e0)];exact e0
   have hc1:wr.cell? ⟨b,o+k*3+1,none⟩=some (.int .i64 x.mass):=by rw[HB.out.cell (World.block_lt_of_cell? w _ e1)];exact e1
   have hc2:wr.cell? ⟨b,o+k*3+2,none⟩=some (.slice p x.shares.length cc):=by rw[HB.out.cell (World.block_lt_of_cell? w _ e2)];exact e2
   have hal:Below wr.heap.size wr (wr.alloc (.cells #[.string x.grain,.int .i64 x.mass,.slice p x.shares.length cc] 59)):=(Below.refl _ _).alloc (Nat.le_refl _) _;have ho:=qe3 wr 59 (.string x.grain) (.int .i64 x.mass) (.slice p x.shares.length cc);obtain⟨a1,_⟩:=ho.2 1 (by omega);obtain⟨a2,_⟩:=ho.2 2 (by omega);simp only[qhu,if_pos,Nat.one_ne_zero] at a1 a2;obtain⟨p',cc',hpe,_,_,hcells⟩:=hv;obtain⟨bs,os,rfl,hspan⟩:=hcells.resolve_left (by omega);cases hpe
   obtain⟨cs,⟨g,rfl,hnums⟩,hcc⟩:=HR.out.get k (qqu x) (by rw[List.getElem?_map,hsk];rfl);have hp0:=hcc 0 _ rfl;simp only[q4r,Nat.mul_one,Nat.add_zero] at hp0;have hqs:(qqu x).length=x.shares.length:=by unfold qqu;rw[List.length_map]
   have HSP:=hid hspan;have HNUMS:=hid hnums;have HP0:=hid hp0;have HSC:=hid hsc;have HTK:Hid (qfr (l.take (k+1))=qfz x.mass (qfr (l.take k)) x.shares):=hid (by rw[qca hsk,qm0]);have HN1:=hid (HN.out.later hal);have HB1:=hid (HB.out.trans (hal.mono HB.out.size));have HGL:Hid (w.heap.size<wr.heap.size):=hid HN.out.1.lt;have HA1:=hid a1;have HLQ:Hid (qqu x=x.shares.map qkb):=hid rfl;clear e0 e1 e2 hsk hal ho hcells hcc hp0 hnums hspan HN HB hsc a1;generalize qqu x=qs at *;generalize hss:x.shares=ss at *;generalize hms:x.mass=ms at *;generalize hnn:qs.length=nn at *;have bm:=qg4 ms (by omega) hm1;go_wp2_with fail;clear a2 hc0 hc1 hc2;generalize wr.alloc (.cells #[.string x.grain,.int .i64 ms,.slice (some ⟨bs,os,none⟩) ss.length cc] 59)=w1 at *;generalize hgl:wr.heap.size=gl at *
   go_loopw [21] (fun i wi=>∃j:Nat,j≤ss.length∧i = .int .i64 j∧∃E:Ent,Hid (qiu wi w.heap.size E)∧Hid (qkc E=qfz ms (qfr (l.take k)) (ss.take j))∧Hid (∀e ∈ E,bd e.2.2 (602*64*k+1+602*j))∧Hid (Below w.heap.size w wi)∧Hid (wi.cell? ⟨gl,1,none⟩=some (.int .i64 ms))) (fun i _=>ss.length-(intOf i).toNat)
   case atStart=>exact⟨0,Nat.zero_le _,rfl,E0,HN1,HD,HBD,HB1,HA1⟩
   case round=>
    obtain⟨j,hj,rfl,E,HNM,HDE,HBE,HBW,HCL⟩:=hrel;clear HN1 HB1 HA1 HD HBD;by_cases hjl:j<ss.length
    ·obtain⟨s,hs⟩:∃s,ss[j]? = some s:=⟨ss[j],List.getElem?_eq_getElem hjl⟩
     obtain⟨f0,f1⟩:=HSP.out j s hs;have c0:wr.cell? ⟨bs,os+j*2,none⟩=some (.string s.1):=by rw[HBW.out.cell (World.block_lt_of_cell? w _ f0)];exact f0
     have c1:wr.cell? ⟨bs,os+j*2+1,none⟩=some (.string s.2):=by rw[HBW.out.cell (World.block_lt_of_cell? w _ f1)];exact f1
     have hal:Below wr.heap.size wr (wr.alloc (.cells #[.string s.1,.string s.2] 64)):=(Below.refl _ _).alloc (Nat.le_refl _) _;have hbw:=HBW.out.trans (hal.mono HBW.out.size);obtain⟨x0,x1⟩:=qaf (qcg wr 64 (.string s.1) (.string s.2));obtain⟨y,⟨n0,n1,n2⟩,hy⟩:=(HNUMS.out.later hbw).nv j (qkb s) (by rw[HLQ.out,List.getElem?_map,hs];rfl);rw[Nat.zero_add] at n0 n1 n2
     have hpc:(wr.alloc (.cells #[.string s.1,.string s.2] 64)).cell? ⟨gp,k,none⟩=some (.slice (some ⟨g,0,none⟩) nn nn):=by
      rw[hbw.cell (p:=⟨gp,k,none⟩) (World.block_lt_of_cell? w _ HP0.out)];exact HP0.out
     have hlc:(wr.alloc (.cells #[.string s.1,.string s.2] 64)).cell? ⟨gl,1,none⟩=some (.int .i64 ms):=by
      rw[hal.cell (p:=⟨gl,1,none⟩) (World.block_lt_of_cell? wr _ HCL.out)];exact HCL.out
     have bq:=qgr (HSC.out s (List.mem_of_getElem? hs));have bq':bd (qkb s) 600:=bq;have HWH:=hid (qbp (qcm ms (wr.alloc (.cells #[.string s.1,.string s.2] 64)).drew (by omega) (by omega)));have HNM1:=hid (HNM.out.later (hal.trans ((Below.refl _ _).drew)));have HC0:Hid (qpc s ms nn wr.heap.size gl gp g k j y (wr.alloc (.cells #[.string s.1,.string s.2] 64)).drew):=hid ⟨x0,hlc,hpc,n0,n1,n2⟩;have HY:=hid (hy.later ((Below.refl _ _).drew));have HBW1:=hid (hbw.trans (((Below.refl _ _).drew).mono hbw.size));have HTJ:Hid (qfz ms (qfr (l.take k)) (ss.take (j+1))=q2h (qfz ms (qfr (l.take k)) (ss.take j)) s.1 (qkb s*((ms:Int):Rat))):=hid (by rw[qca hs,qt1]);have hjn:j<nn:=by rw[hqs];exact hjl
     clear f0 f1 hal hbw x1 hpc hlc bq hs hy HNM HBW HCL;generalize qkb s=q at *;generalize hgs:wr.heap.size=gs at *;go_wp2_with fail
     try rw[hgs]
     clear c0 c1;generalize (wr.alloc (.cells #[.string s.1,.string s.2] 64))=w2 at *;have e0:w2.drew.cell? ⟨gs,0,none⟩=some (.string s.1)∧w2.drew.cell? ⟨gl,1,none⟩=some (.int .i64 ms)∧w2.drew.cell? ⟨gp,k,none⟩=some (.slice (some ⟨g,0,none⟩) nn nn)∧w2.drew.cell? ⟨g,j*3,none⟩=some (.bool y.b)∧w2.drew.cell? ⟨g,j*3+1,none⟩=some (.slice y.p y.k y.c)∧w2.drew.cell? ⟨g,j*3+2,none⟩=some (.slice y.q y.j y.d):=HC0.out;obtain⟨L0,HZ0⟩:=qhw HNM1.out s.1;have bl:=(qxz (k:=s.1) HBE.out (by omega)).rs;have bqm:=(qee bq' bm).rs;have bq1:=bq'.rs;have bm1:=bm.rs;have HCAP:Hid (rs (qkx E s.1)+rs (q*((ms:Int):Rat))+2≤Cap∧rs q+rs ((ms:Int):Rat)≤Cap):=hid (by unfold Cap;omega);clear bl bqm bq1 bm1 n0 n1 n2
     go_region_held3 (fun W=>W.cell? ⟨gs,0,none⟩=some (.string s.1)∧W.cell? ⟨gl,1,none⟩=some (.int .i64 ms)∧W.cell? ⟨gp,k,none⟩=some (.slice (some ⟨g,0,none⟩) nn nn)∧W.cell? ⟨g,j*3,none⟩=some (.bool y.b)∧W.cell? ⟨g,j*3+1,none⟩=some (.slice y.p y.k y.c)∧W.cell? ⟨g,j*3+2,none⟩=some (.slice y.q y.j y.d)) (first|with_reducible exact eA|with_reducible exact eB|with_reducible exact eC|with_reducible exact eD|exact e0)
      (first
       | (go_at_call 34;((with_reducible refine HWH.out.mono ?_);rintro e wA ⟨⟨t1,rfl,hn⟩,hb⟩;have HV1:=hid hn;have HYA:=hid (HY.out.later hb);have HBA:=hid (HBW1.out.trans (hb.mono HBW1.out.size));have HNA:=hid (HNM1.out.later hb);have HCA:=hid (HC0.out.later hb);have eA:wA.cell? ⟨gs,0,none⟩=some (.string s.1)∧wA.cell? ⟨gl,1,none⟩=some (.int .i64 ms)∧wA.cell? ⟨gp,k,none⟩=some (.slice (some ⟨g,0,none⟩) nn nn)∧wA.cell? ⟨g,j*3,none⟩=some (.bool y.b)∧wA.cell? ⟨g,j*3+1,none⟩=some (.slice y.p y.k y.c)∧wA.cell? ⟨g,j*3+2,none⟩=some (.slice y.q y.j y.d):=HCA.out;obtain⟨LA,HZA⟩:=qhw HNA.out s.1;clear hn hb))
       | (go_at_call 35;((with_reducible refine(qbp (qdj _ _ _ _ wA HYA.out HV1.out HCAP.out.2)).mono ?_);rintro e wB ⟨⟨t2,rfl,hn⟩,hb⟩;have HV2:=hid hn;have HBB:=hid (HBA.out.trans (hb.mono HBA.out.size));have HNB:=hid (HNA.out.later hb);have HCB:=hid (HCA.out.later hb);have eB:wB.cell? ⟨gs,0,none⟩=some (.string s.1)∧wB.cell? ⟨gl,1,none⟩=some (.int .i64 ms)∧wB.cell? ⟨gp,k,none⟩=some (.slice (some ⟨g,0,none⟩) nn nn)∧wB.cell? ⟨g,j*3,none⟩=some (.bool y.b)∧wB.cell? ⟨g,j*3+1,none⟩=some (.slice y.p y.k y.c)∧wB.cell? ⟨g,j*3+2,none⟩=some (.slice y.q y.j y.d):=HCB.out;obtain⟨LB,HZB⟩:=qhw HNB.out s.1;clear hn hb))
       | (go_at_call 112;((with_reducible refine(qbp (qia _ _ _ _ wB HZB HV2.out HCAP.out.1)).mono ?_);rintro e wC ⟨⟨t3,rfl,hn⟩,hb⟩;have HBC:=hid (HBB.out.trans (hb.mono HBB.out.size));have HNC:=hid (HNB.out.later hb);have HCC:=hid (HCB.out.later hb);have eC:wC.cell? ⟨gs,0,none⟩=some (.string s.1)∧wC.cell? ⟨gl,1,none⟩=some (.int .i64 ms)∧wC.cell? ⟨gp,k,none⟩=some (.slice (some ⟨g,0,none⟩) nn nn)∧wC.cell? ⟨g,j*3,none⟩=some (.bool y.b)∧wC.cell? ⟨g,j*3+1,none⟩=some (.slice y.p y.k y.c)∧wC.cell? ⟨g,j*3+2,none⟩=some (.slice y.q y.j y.d):=HCC.out;obtain⟨LC,HZC⟩:=qhw HNC.out s.1;obtain⟨wD,hrunD,hND,hchD,hszD⟩:=q5x HNC.out s.1 t3 _ hn;have HND:=hid hND;have HBD:=hid (hchD.1);have eD:wD.cell? ⟨gs,0,none⟩=some (.string s.1)∧wD.cell? ⟨gl,1,none⟩=some (.int .i64 ms)∧wD.cell? ⟨gp,k,none⟩=some (.slice (some ⟨g,0,none⟩) nn nn)∧wD.cell? ⟨g,j*3,none⟩=some (.bool y.b)∧wD.cell? ⟨g,j*3+1,none⟩=some (.slice y.p y.k y.c)∧wD.cell? ⟨g,j*3+2,none⟩=some (.slice y.q y.j y.d):=HCC.out.keep HNC.out.1 hchD;clear hn hb hchD hszD hND)))
     all_goals
      have HBF:=hid (HBC.out.trans (HBD.out.mono (by rw[Nat.min_self];exact Nat.le_refl _)));have HDF:Hid (qkc (q4s E s.1 t3 (q*((ms:Int):Rat)))=qfz ms (qfr (l.take k)) (ss.take (j+1))):=hid (by rw[q2i HNC.out,HDE.out,HTJ.out]);have HBEF:Hid (∀e ∈ q4s E s.1 t3 (q*((ms:Int):Rat)),bd e.2.2 (602*64*k+1+602*(j+1))):=hid (fun e he=>(q8e HBE.out (by omega) (qee bq' bm) e he).mono (by omega));have HCF:Hid (wD.cell? ⟨gl,1,none⟩=some (.int .i64 ms)):=hid eD.2.1;go_wp2_with fail;go_roundw
      case rel=>exact⟨j+1,by omega,by go_num,_,HND,HDF,HBEF,HBF,HCF⟩
      case measure=>simp[intOf];omega
    ·obtain rfl:j=ss.length:=by omega
     have hD:=HDE.out;rw[List.take_length,←HTK.out] at hD;have HD2:=hid hD;have HBE2:Hid (∀e ∈ E,bd e.2.2 (602*64*(k+1)+1)):=hid (fun e he=>(HBE.out e he).mono (by omega));clear hD HDE HBE;go_wp2_with fail;go_roundw
     case rel=>exact⟨k+1,by omega,by go_num,E,HNM,HD2,HBE2,HBW⟩
     case measure=>simp[intOf];omega
  ·obtain rfl:k=l.length:=by omega
   have hD:=HD.out;rw[List.take_length] at hD;have HD2:=hid hD;have HBE2:Hid (∀e ∈ E0,bd e.2.2 (602*64*64+1)):=hid (fun e he=>(HBD.out e he).mono (by omega));clear hD HD HBD;go_wp2_with fail;go_ret;exact⟨⟨E0,rfl,HN.out,HD2.out,HBE2.out⟩,HB.out⟩
def MC(gb gm r:Nat)(ms:Int)(W:World):Prop:=W.cell? ⟨gb,0,none⟩=some (.map (some r))∧W.cell? ⟨gm,0,none⟩=some (.int .i64 ms)
theorem MC.later{gb gm r:Nat}{ms:Int}{W W':World}(h:MC gb gm r ms W)(hb:Below W.heap.size W W'):MC gb gm r ms W':=by
 obtain⟨h0,h1⟩:=h;refine⟨?_, ?_⟩
 ·rw[hb.cell (World.block_lt_of_cell? W _ h0)];exact h0
 ·rw[hb.cell (World.block_lt_of_cell? W _ h1)];exact h1
def qn6(E:Ent)(ms:Int)(k:ByteArray):Rat:=qkx E k/((ms:Int):Rat)
theorem qzv(gb gm r:Nat)(E:Ent)(ms:Int)(k:ByteArray)(w:World)(hc:MC gb gm r ms w)(hN:qiu w r E)(h1:1≤ms)(h2:ms≤999999999)(hbd:∀e ∈ E,bd e.2.2 (602*64*64+1)):
  Calls Tryz.prog 121 #[.string k,.pointer (some ⟨gb,0,none⟩),.pointer (some ⟨gm,0,none⟩)] w fun e w'=>e = .returned (.tuple #[.agg #[.string k,.string (qch (qn6 E ms k))],.int .i64 (qe5 (qn6 E ms k):Nat)])∧Below w.heap.size w w':=by
 have hal:Below w.heap.size w (w.alloc (.cells #[.string ⟨#[]⟩,.string ⟨#[]⟩] 64)):=(Below.refl _ _).alloc (Nat.le_refl _) _;have HAL:=hid (hal.trans ((Below.refl w.heap.size _).drew));have HO:=hid ((qcg w 64 (.string ⟨#[]⟩) (.string ⟨#[]⟩)).later ((Below.refl _ _).drew));have HC0:=hid ((hc.later hal).later ((Below.refl _ _).drew));have HN0:=hid ((hN.later hal).later ((Below.refl _ _).drew));have bm:=qg4 ms (by omega) h2;have bl:=qxz (k:=k) hbd (by omega)
 have HCAP:Hid (rs (qkx E k)+rs ((ms:Int):Rat)≤Cap∧rs (qn6 E ms k)≤Cap):=hid (by
  have a1:=bl.rs;have a2:=bm.rs;have a3:=(qlq bl bm).rs
  unfold qn6 Cap;omega)
 have HNZ:Hid (((ms:Int):Rat).num≠0):=hid (by show ms≠0;omega);have HWH:=hid (qbp (qcm ms (w.alloc (.cells #[.string ⟨#[]⟩,.string ⟨#[]⟩] 64)).drew (by omega) (by omega)));obtain⟨L0,HZ0⟩:=qhw HN0.out k;have e0:(w.alloc (.cells #[.string ⟨#[]⟩,.string ⟨#[]⟩] 64)).drew.cell? ⟨gb,0,none⟩=some (.map (some r))∧(w.alloc (.cells #[.string ⟨#[]⟩,.string ⟨#[]⟩] 64)).drew.cell? ⟨gm,0,none⟩=some (.int .i64 ms):=HC0.out;clear hal hc hN bm bl hbd;go_enter Tryz.func121,Tryz.ntmps121;go_wp2_with fail;generalize w.alloc (.cells #[.string ⟨#[]⟩,.string ⟨#[]⟩] 64)=w1 at *
 go_region_held3 (fun W=>W.cell? ⟨gb,0,none⟩=some (.map (some r))∧W.cell? ⟨gm,0,none⟩=some (.int .i64 ms)) (first|with_reducible exact eA|with_reducible exact eB|with_reducible exact eC|exact e0)
  (first
   | (go_at_call 34;((with_reducible refine HWH.out.mono ?_);rintro e wA ⟨⟨t1,rfl,hn⟩,hb⟩;have HV1:=hid hn;have HBA:=hid (HAL.out.trans (hb.mono HAL.out.size));have HNA:=hid (HN0.out.later hb);have HOA:=hid (HO.out.later (hb.mono HO.out.1));have HCA:=hid (HC0.out.later hb);have eA:wA.cell? ⟨gb,0,none⟩=some (.map (some r))∧wA.cell? ⟨gm,0,none⟩=some (.int .i64 ms):=HCA.out;obtain⟨LA,HZA⟩:=qhw HNA.out k;clear hn hb))
   | (go_at_call 36;((with_reducible refine(qbp (qeu _ _ _ _ wA HZA HV1.out HNZ.out HCAP.out.1)).mono ?_);rintro e wB ⟨⟨t2,rfl,hn⟩,hb⟩;have HV2:Hid (qai wB (.agg #[.bool t2.b,.slice t2.p t2.k t2.c,.slice t2.q t2.j t2.d]) (qn6 E ms k)):=hid hn;have HBB:=hid (HBA.out.trans (hb.mono HBA.out.size));have HOB:=hid (HOA.out.later (hb.mono HOA.out.1));have HCB:=hid (HCA.out.later hb);have eB:wB.cell? ⟨gb,0,none⟩=some (.map (some r))∧wB.cell? ⟨gm,0,none⟩=some (.int .i64 ms):=HCB.out;clear hn hb))
   | (go_at_call 33;((with_reducible refine(qhp _ _ wB HV2.out HCAP.out.2).mono ?_);rintro e wC h;obtain⟨rfl,hb⟩:=qku h;have HBC:=hid (HBB.out.trans (hb.mono HBB.out.size));have HOC:=hid (HOB.out.later (hb.mono HOB.out.1));have HCC:=hid (HCB.out.later hb);have eC:wC.cell? ⟨gb,0,none⟩=some (.map (some r))∧wC.cell? ⟨gm,0,none⟩=some (.int .i64 ms):=HCC.out;obtain⟨⟨r0,g0'⟩,⟨r1,g1⟩⟩:=qfj HOC.out;clear hb h)))
 all_goals
  have HBF:=hid (qeg HBC.out (Nat.le_refl _) (.string k) (.string (qch (qn6 E ms k))));go_wp2_with fail;refine bodyPost_ret (v := .tuple #[.agg #[.string k,.string (qch (qn6 E ms k))],.int .i64 (qe5 (qn6 E ms k):Nat)]) ?_ rfl ?_
  ·simp[results,Tryz.results121,go_sem,r0,r1]
  ·exact⟨rfl,HBF.out⟩
def shK:qu7 (ByteArray × ByteArray) where
 ty:=64
 size:=2
 ok:=fun c=>∃s,c = .string s
 E:=fun _ cs x=>cs=[.string x.1,.string x.2]
theorem qpd:shK.Law where
 pos:=by show 0<2;omega
 cells:=by
  rintro W cs x rfl;refine⟨rfl,fun c hc => ?_⟩;simp only[List.mem_cons,List.not_mem_nil,or_false] at hc;rcases hc with rfl|rfl<;>exact⟨⟨_,rfl⟩,rfl⟩
 later:=by
  rintro W W' cs x rfl _;rfl
 set:=by
  rintro W g cur ty fr cs x cs' rfl _ _;rfl
def qqv(W:World)(b o:Nat)(l:List ByteArray):Prop:=∀(j:Nat) (s:ByteArray),l[j]? = some s→W.cell? ⟨b,o+j,none⟩=some (.string s)
theorem qqv.later{W W':World}{b o:Nat}{l:List ByteArray}(h:qqv W b o l)(hb:Below W.heap.size W W'):qqv W' b o l:=fun j s hj=>by
 rw[hb.cell (World.block_lt_of_cell? W _ (h j s hj))];exact h j s hj
theorem q5y(n:Nat)(hn:n≤1048576)(w:World):
  (Instr.makeSlice 57 (.int .i64 0) (.int .i64 (n:Int))).run Tryz.prog w = .ok (.slice (some ⟨w.heap.size,0,none⟩) 0 n) (w.alloc (.cells (madeCells #[.string ⟨#[]⟩,.string ⟨#[]⟩] (n*2)) 64)):=by
 obtain⟨i0,hi,hz0,hz1,hz2⟩:=info_parts (show(Tryz.prog.info? 64).map (fun i=>(i.zero,i.size,i.bytes))=some (some (.agg #[.string ⟨#[]⟩,.string ⟨#[]⟩]),2,32) by kernel_rfl);have h:=run_make (P:=Tryz.prog) w 57 64 i0 _ Tryz.underlying57 hi hz0 .i64 .i64 0 (n:Int) (Int.le_refl _) (by omega) (by rw[hz2];omega) (by omega);rw[hz1] at h
 simpa [Value.cells] using h
theorem q5z(gb gm r:Nat)(E:Ent)(ms:Int)(l:List ByteArray)(b o c:Nat)(w:World)(hrow:qqv w b o l)(hl:l.length≤64)(hmc:MC gb gm r ms w)(hN:qiu w r E)(h1:1≤ms)(h2:ms≤999999999)(hbd:∀e ∈ E,bd e.2.2 (602*64*64+1)):
  Calls Tryz.prog 118 #[.slice (some ⟨b,o,none⟩) l.length c,.func (.func 121) #[] #[.pointer (some ⟨gb,0,none⟩),.pointer (some ⟨gm,0,none⟩)]] w
   (qjf shK (l.map fun s=>qe5 (qn6 E ms s)) (l.map fun s=>(s,qch (qn6 E ms s))) w):=by
 have HROW:=hid hrow;have HCL:Hid (∀W s,Below w.heap.size w W→Calls Tryz.prog 121 #[.string s,.pointer (some ⟨gb,0,none⟩),.pointer (some ⟨gm,0,none⟩)] W fun e w'=>e = .returned (.tuple #[.agg #[.string s,.string (qch (qn6 E ms s))],.int .i64 (qe5 (qn6 E ms s):Nat)])∧Below W.heap.size W w'):=hid fun W s hW=>qzv gb gm r E ms s W (hmc.later hW) (hN.later hW) h1 h2 hbd;have hmk:=q5y l.length (by omega);obtain⟨i0,hi,hz0,hz1,hz2⟩:=info_parts (show(Tryz.prog.info? 64).map (fun i=>(i.zero,i.size,i.bytes))=some (some (.agg #[.string ⟨#[]⟩,.string ⟨#[]⟩]),2,32) by kernel_rfl);have HI:=hid hi;clear hrow hi hz0 hz2 hmc hN hbd
 have HN0:=hid (qkv qpd w l.length (l.length*2) #[.string ⟨#[]⟩,.string ⟨#[]⟩] rfl rfl (by
  intro c hc;simp only[List.mem_cons,List.not_mem_nil,or_false] at hc
  rcases hc with rfl|rfl<;>exact⟨_,rfl⟩))
 have HB0:Hid (Below w.heap.size w (w.alloc (.cells (madeCells #[.string ⟨#[]⟩,.string ⟨#[]⟩] (l.length*2)) 64))):=hid ((Below.refl _ _).alloc (Nat.le_refl _) _);obtain⟨ef,hef⟩:∃ef:ByteArray→Nat,ef=fun s=>qe5 (qn6 E ms s):=⟨_,rfl⟩;obtain⟨tf,htf⟩:∃tf:ByteArray→ByteArray,tf=fun s=>qch (qn6 E ms s):=⟨_,rfl⟩;have e1:∀s,qch (qn6 E ms s)=tf s:=fun s=>by rw[htf]
 have e2:∀s,qe5 (qn6 E ms s)=ef s:=fun s=>by rw[hef]
 simp only[e1,e2] at HCL ⊢;clear e1 e2 hef htf;obtain⟨pf,hpf⟩:∃pf:ByteArray→ByteArray × ByteArray,pf=fun s=>(s,tf s):=⟨_,rfl⟩;have HPF:Hid (∀s,pf s=(s,tf s)):=hid fun s=>by rw[hpf]
 rw[show(l.map fun s=>(s,tf s))=l.map pf from by rw[hpf],show(l.map fun s=>ef s)=l.map ef from rfl];clear hpf;go_enter Tryz.func118,Tryz.ntmps118;go_wp2_with fail;clear hmk
 replace HN0:Hid (qdb shK (w.alloc (.cells (madeCells #[.string ⟨#[]⟩,.string ⟨#[]⟩] (l.length*2)) 64)) w.heap.size l.length []):=HN0
 generalize w.alloc (.cells (madeCells #[.string ⟨#[]⟩,.string ⟨#[]⟩] (l.length*2)) 64)=w0 at *
 go_loopw [6,16] (fun r i wr=>∃k:Nat,k≤l.length∧i = .int .i64 k∧r = .slice (some ⟨w.heap.size,0,none⟩) k l.length∧Hid (qdb shK wr w.heap.size l.length ((l.take k).map pf))∧Hid (qac ((l.take k).map ef)=0)∧Hid (Below w.heap.size w wr)) (fun _ i _=>l.length-(intOf i).toNat)
 case atStart=>exact⟨0,Nat.zero_le _,rfl,rfl,HN0,hid rfl,HB0⟩
 case round=>
  obtain⟨k,hk,rfl,rfl,HN,HE,HB⟩:=hrel;clear HN0 HB0;by_cases hkl:k<l.length
  ·obtain⟨s,hsk⟩:∃s,l[k]? = some s:=⟨l[k],List.getElem?_eq_getElem hkl⟩
   have e0:=HROW.out k s hsk;have hc0:wr.cell? ⟨b,o+k,none⟩=some (.string s):=by rw[HB.out.cell (World.block_lt_of_cell? w _ e0)];exact e0
   have HRD:=hid (HCL.out wr s HB.out);have HSK:=hid hsk;clear e0 hsk;by_cases hc:ef s=0
   ·have HE2:=hid (qgi ef HSK.out HE.out hc)
    rw[hc] at HRD
    have hqs:((l.take k).map pf)++[(s,tf s)]=(l.take (k+1)).map pf:=by
     rw[qca HSK.out,List.map_append,←HPF.out];rfl
    have HQS:=hid hqs;have hql:((l.take k).map pf).length=k:=by rw[List.length_map,List.length_take];omega
    have HN1:=HN;have HB1:=HB;clear HE hc hqs HN HB;generalize tf s=q at *;generalize ((l.take k).map pf)=qs at *;go_wp2_with fail;refine HRD.out.mono ?_;rintro e w1 ⟨rfl,hb⟩;have hal:Below w1.heap.size w1 (w1.alloc (.cells #[.string s,.string q] 64)):=(Below.refl _ _).alloc (Nat.le_refl _) _;have HN2:=hid ((HN1.out.later qpd hb).later qpd hal);have HBB:=hid (HB1.out.trans (hb.mono HB1.out.size));have hbs:w.heap.size≤w1.heap.size:=HBB.out.size;have HB2:=hid (HBB.out.trans (hal.mono hbs));obtain⟨y0,y1⟩:=qaf (qcg w1 64 (.string s) (.string q));have hal2:Below (w1.alloc (.cells #[.string s,.string q] 64)).heap.size (w1.alloc (.cells #[.string s,.string q] 64)) ((w1.alloc (.cells #[.string s,.string q] 64)).alloc (.cells #[.string s,.string q] 64)):=(Below.refl _ _).alloc (Nat.le_refl _) _;obtain⟨cur,hcur,hfit,hnew,hbel⟩:=(HN2.out.later qpd hal2).push qpd (cs:=[.string s,.string q]) (x:=(s,q)) (by rw[hql];exact hkl) rfl;have hnb:=heap_alloc_new (w1.alloc (.cells #[.string s,.string q] 64)) (.cells #[.string s,.string q] 64);rw[World.size_alloc] at hnb;rw[hql] at hfit hnew hbel;simp only[List.append_assoc,List.cons_append,List.nil_append,shK,List.length_cons,List.length_nil,Nat.zero_add,Nat.reduceAdd] at hnew hbel hfit hcur;have HNEW:Hid (qdb shK _ _ _ _):=hid hnew;have HBEL:=hid (HB2.out.trans ((hal2.mono (by rw[World.size_alloc];omega)).trans (hbel w.heap.size (Nat.le_refl _))));have HCUR:=hid hcur;have HNB:=hid hnb;have HFIT:=hid hfit;clear hal hal2 hbs hcur hfit hnew hbel hnb HN1 HB1 HN2 HB2 hql hb HBB hc0 HRD;go_wp2_with (at_builtin;refine qba _ rfl _ _ 57 rfl 64 i0 2 Tryz.underlying57 HI.out hz1 w.heap.size k l.length cur rfl HCUR.out ⟨w1.heap.size+1,0,none⟩ 1 1 [.string s,.string q] rfl rfl (World.news_of_block HNB.out) ?qc1 (by omega) HFIT.out ?_)
    case qc1=>
     intro u hu;simp only[List.mem_cons,List.not_mem_nil,or_false] at hu;rcases hu with rfl|rfl<;>rfl
    clear y0 y1;go_wp2_with fail;go_roundw
    case rel=>exact⟨k+1,hkl,by go_num,rfl,hid (by rw[←HQS.out];exact HNEW.out),HE2,HBEL⟩
    case measure=>simp[intOf];omega
   ·have HF:=hid (qhr ef HSK.out HE.out hc)
    clear HE;generalize ef s=ck at *;generalize tf s=q at *;have hck:((ck:Int)==0)=false:=beq_eq_false_iff_ne.2 (by omega);have HCK:=hid hc;clear hc;go_wp2_with fail;refine HRD.out.mono ?_;rintro e w1 ⟨rfl,hb⟩;have h1:=HB.out.trans (hb.mono HB.out.size);have HB1:=hid (h1.trans ((Below.refl w.heap.size w1).alloc h1.size (.cells #[.string s,.string q] 64)));clear hb HB HRD hc0 h1;go_wp2_with fail;go_ret2;exact qo5 HF.out HCK.out rfl HB1.out
  ·obtain rfl:k=l.length:=by omega
   have hE:=HE.out;have hN:=HN.out;rw[List.take_length] at hE hN;have HE':=hid hE;have HN':=hid hN;clear hE hN HE HN;go_wp2_with fail;go_ret2;exact qmx HE'.out (by rw[List.length_map]) (Nat.le_refl _) rfl HN'.out HB.out
end Go.Proofs.YtlkaldjmgamamaaGreatDoor
namespace Go.Proofs.YtlkaldjmgamamaaGreatDoor
open Go.RowKit Go.Maps Go.Sort Go.Shelf
set_option maxRecDepth 100000
set_option maxHeartbeats 8000000
def q8f(l:List UInt8):ByteArray:=⟨l.toArray⟩
def qcb(ss:List (List UInt8)):List ByteArray:=(ss.mergeSort (fun x y=>decide (x≤y))).map q8f
def qzw(E:Ent)(ms:Int)(w:World)(e:Ending)(w':World):Prop:=
 if 64<E.length then e = .returned (.tuple #[.slice none 0 0,.int .i64 5])∧Below w.heap.size w w'
 else ∃ss:List (List UInt8),ss.Perm (E.map fun e=>e.1.data.toList)∧qjf shK ((qcb ss).map fun s=>qe5 (qn6 E ms s)) ((qcb ss).map fun s=>(s,qch (qn6 E ms s))) w e w'
theorem qzx{α:Type}{K:qu7 α}{errs:List Nat}{l:List α}{w W w':World}{e:Ending}(h:qjf K errs l W e w')(hb:Below w.heap.size w W):qjf K errs l w e w':=by
 obtain⟨h1,h2⟩:=h;refine⟨?_,hb.trans (h2.mono hb.size)⟩;split
 ·rename_i h0
  rw[if_pos h0] at h1;obtain⟨g,hg,he,hr⟩:=h1;exact⟨g,Nat.le_trans hb.size hg,he,hr⟩
 ·rename_i h0
  rw[if_neg h0] at h1;exact h1
theorem qzy{α:Type}{K:qu7 α}{errs:List Nat}{l:List α}{W w':World}{e:Ending}(h:qjf K errs l W e w'):∃(p:Option Addr) (n c:Nat) (z:Int),e = .returned (.tuple #[.slice p n c,.int .i64 z]):=by
 obtain⟨h1,_⟩:=h;split at h1
 ·obtain⟨g,_,he,_⟩:=h1
  exact⟨_,_,_,_,he⟩
 ·exact⟨_,_,_,_,h1⟩
theorem q2j(r:Nat)(W:World):Calls Tryz.prog 120 #[.map (some r)] W fun e w'=>e = .returned (.func (.func 172) #[] #[.pointer (some ⟨W.heap.size,0,none⟩)])∧w'=W.alloc (.cells #[.map (some r)] 120):=
 callsIn_wide.1 (Tryz.maps_Keys_120 (some r) W)
theorem qv3{r n:Nat}{E:Ent}{W:World}(hn:n=W.heap.size)(hN:qiu W r E)(hne:E≠[])(hl:E.length≤64)(hk:∀e ∈ E,e.1.size≤maxLen):
  Calls Tryz.prog 119 #[.func (.func 172) #[] #[.pointer (some ⟨n,0,none⟩)]] (W.alloc (.cells #[.map (some r)] 120)) fun e w'=>∃(ss:List (List UInt8)) (g c:Nat),ss.Perm (E.map fun e=>e.1.data.toList)∧e = .returned (.slice (some ⟨g,0,none⟩) (qcb ss).length c)∧qqv w' g 0 (qcb ss)∧Below W.heap.size W w':=by
 subst hn
 obtain⟨D0,hown,hperm,hsz⟩:=hN.1.owns (H:=Nat) (P:=Tryz.prog) (kt:=9) Tryz.underlying9 (fun p hp=>by
  rw[List.mem_map] at hp;obtain⟨e,he,rfl⟩:=hp
  exact hk e he) (by rw[List.length_map];omega)
 rw[List.length_map] at hsz;refine(callsIn_wide.1 (Tryz.slices_Sorted_keys_119_120 r _ D0 _ W hown (by rw[hsz];unfold maxLen;omega) (by rw[hsz];omega))).mono ?_;rintro e w' ⟨v,ss,rfl,hp,hrow,hnil,hb⟩;have hp2:=hp.trans hperm;rw[List.map_map] at hp2;have hlen:=hp2.length_eq;rw[List.length_map] at hlen
 have hss:ss≠[]:=by
  rintro rfl;exact hne (List.length_eq_zero_iff.1 hlen.symm)
 have hkl:(qcb ss).length=ss.length:=by unfold qcb;rw[List.length_map,List.length_mergeSort]
 obtain⟨h1,h2⟩:=hrow;rcases h2 with⟨h2,_⟩|⟨g,cap,cur,h3,h4,h5,h6,h7,h8,h9⟩
 ·exact absurd (hnil.1 h2) hss
 ·refine⟨ss,g,cap,hp2,by rw[h3,hkl],fun j s hs => ?_,((Below.refl _ _).alloc (Nat.le_refl _) _).trans (hb.mono (by rw[World.size_alloc];omega))⟩
  rw[Nat.zero_add,cell_of_row w' g _ cur _ (0,0) h5,←Array.getElem?_toList];have hj:j<ss.length:=by rw[←hkl];exact(List.getElem?_eq_some_iff.1 hs).1
  have h10:(cur.toList.take (ss.length*1))[j]? = some (Value.string s):=by
   rw[h9];unfold qcb at hs;rw[List.getElem?_map] at hs ⊢;cases hm:(ss.mergeSort (fun x y=>decide (x≤y)))[j]? with
   | none=>rw[hm] at hs;cases hs
   | some t=>
    rw[hm] at hs;simp only[Option.map_some,Option.some.injEq] at hs;subst hs;rfl
  rwa [List.getElem?_take_of_lt (by omega)] at h10
theorem qt3(r:Nat)(E:Ent)(ms:Int)(w:World)(hN:qiu w r E)(hne:E≠[])(hk:∀e ∈ E,e.1.size≤maxLen)(h1:1≤ms)(h2:ms≤999999999)(hbd:∀e ∈ E,bd e.2.2 (602*64*64+1)):
  Calls Tryz.prog 69 #[.map (some r),.int .i64 ms] w (qzw E ms w):=by
 have hal1:Below w.heap.size w (w.alloc (.cells #[.map (some r)] 120)):=(Below.refl _ _).alloc (Nat.le_refl _) _;have hal:Below w.heap.size w ((w.alloc (.cells #[.map (some r)] 120)).alloc (.cells #[.int .i64 ms] 3)):=hal1.alloc (by simp) _;have HN2:=hid (hN.later hal);have HMC:Hid (MC w.heap.size (w.heap.size+1) r ms ((w.alloc (.cells #[.map (some r)] 120)).alloc (.cells #[.int .i64 ms] 3))):=hid ⟨by simp,by simp⟩;obtain⟨m0,m1⟩:((w.alloc (.cells #[.map (some r)] 120)).alloc (.cells #[.int .i64 ms] 3)).cell? ⟨w.heap.size,0,none⟩=some (.map (some r))∧((w.alloc (.cells #[.map (some r)] 120)).alloc (.cells #[.int .i64 ms] 3)).cell? ⟨w.heap.size+1,0,none⟩=some (.int .i64 ms):=HMC.out
 obtain⟨es,clock,hb,hes⟩:∃es clock,((w.alloc (.cells #[.map (some r)] 120)).alloc (.cells #[.int .i64 ms] 3)).heap[r]? = some (.map es clock)∧es.size=E.length:=by
  obtain⟨es,clock,g1,g2,_⟩:=HN2.out.1;refine⟨es,clock,g1, ?_⟩;have:=congrArg List.length g2;rw[List.length_map,List.length_map,List.length_map,Array.length_toList] at this;exact this
 have hrl:(Builtin.len_ #[120] 3 #[.map (some r)]).run Tryz.prog ((w.alloc (.cells #[.map (some r)] 120)).alloc (.cells #[.int .i64 ms] 3)) = .ok (.int .i64 (es.size:Nat)) ((w.alloc (.cells #[.map (some r)] 120)).alloc (.cells #[.int .i64 ms] 3)):=run_len_map _ _ _ r es clock (by kernel_rfl) hb;have HAL:=hid hal;by_cases hbig:64<E.length
 ·have HF:Hid (∀w',Below w.heap.size w w'→qzw E ms w (.returned (.tuple #[.slice none 0 0,.int .i64 5])) w'):=hid fun w' hb=>by
   unfold qzw;rw[if_pos hbig];exact⟨rfl,hb⟩
  have hgt:64<es.size:=by omega
  clear hal hal1 hN hbd hk hne;go_enter Tryz.func69,Tryz.ntmps69;go_wp2_with fail;go_ret2;exact HF.out _ HAL.out
 ·have hgt:¬64<es.size:=by omega
  have HF:Hid (∀(W:World) (ss:List (List UInt8)) e w',ss.Perm (E.map fun e=>e.1.data.toList)→Below w.heap.size w W→qjf shK ((qcb ss).map fun s=>qe5 (qn6 E ms s)) ((qcb ss).map fun s=>(s,qch (qn6 E ms s))) W e w'→qzw E ms w e w'):=hid fun W ss e w' hp hb h=>by
   unfold qzw;rw[if_neg hbig];exact⟨ss,hp,qzx h hb⟩
  have HSC:=hid (qv3 (n:=w.heap.size+1+1) (by simp) HN2.out hne (by omega) hk);have HKC:=hid (q2j r ((w.alloc (.cells #[.map (some r)] 120)).alloc (.cells #[.int .i64 ms] 3)))
  have HEM:Hid (∀W ss g c,Below ((w.alloc (.cells #[.map (some r)] 120)).alloc (.cells #[.int .i64 ms] 3)).heap.size ((w.alloc (.cells #[.map (some r)] 120)).alloc (.cells #[.int .i64 ms] 3)) W→ss.Perm (E.map fun e=>e.1.data.toList)→qqv W g 0 (qcb ss)→Calls Tryz.prog 118 #[.slice (some ⟨g,0,none⟩) (qcb ss).length c,.func (.func 121) #[] #[.pointer (some ⟨w.heap.size,0,none⟩),.pointer (some ⟨w.heap.size+1,0,none⟩)]] W (qjf shK ((qcb ss).map fun s=>qe5 (qn6 E ms s)) ((qcb ss).map fun s=>(s,qch (qn6 E ms s))) W)):=hid fun W ss g c hW hp hs=>
   q5z _ _ r E ms _ g 0 c W hs (by have:=hp.length_eq;rw[List.length_map] at this;unfold qcb;rw[List.length_map,List.length_mergeSort];omega) (HMC.out.later hW) (HN2.out.later hW) h1 h2 hbd
  clear hal hal1 hN hbd hk hne;go_enter Tryz.func69,Tryz.ntmps69;go_wp2_with fail;refine HKC.out.mono ?_;rintro e w3 ⟨rfl,rfl⟩;go_wp2_with fail;refine HSC.out.mono ?_;rintro e w4 ⟨ss,g,c,hp,rfl,hs,hb⟩;have HEC:=hid (HEM.out w4 ss g c hb hp hs);have HFF:=hid (fun e w' h=>HF.out w4 ss e w' hp (HAL.out.trans (hb.mono HAL.out.size)) h);clear hp hs hb HEM HSC HKC HF;go_wp2_with fail;refine HEC.out.mono ?_;rintro e w5 h;have HR:=hid (HFF.out _ _ h);obtain⟨p,n,c',z,rfl⟩:=qzy h;clear h HFF HEC;go_wp2_with fail;go_ret2;exact HR.out
end Go.Proofs.YtlkaldjmgamamaaGreatDoor
