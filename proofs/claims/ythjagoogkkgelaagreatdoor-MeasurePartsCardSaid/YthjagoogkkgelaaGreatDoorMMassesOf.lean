/- The map of the masses of lots. -/
import Derived.Test.YthjagoogkkgelaaGreatDoorMShare
import Derived.Test.YthjagoogkkgelaaGreatDoorMEachLayer
import Derived.Test.YthjagoogkkgelaaGreatDoorMMean
import Derived.Carry
import Derived.Test.YthjagoogkkgelaaGreatDoorIter
set_option linter.all false
namespace Go.Proofs.YthjagoogkkgelaaGreatDoor
open Go.RowKit
set_option maxRecDepth 100000
set_option maxHeartbeats 8000000
abbrev Ent:=List (ByteArray × NV × Rat)
def qiw(W:World)(r:Nat)(E:Ent):Prop:=qpn W r (E.map fun e=>(e.1,.agg #[.bool e.2.1.b,.slice e.2.1.p e.2.1.k e.2.1.c,.slice e.2.1.q e.2.1.j e.2.1.d]))∧∀e ∈ E,qaj W (.agg #[.bool e.2.1.b,.slice e.2.1.p e.2.1.k e.2.1.c,.slice e.2.1.q e.2.1.j e.2.1.d]) e.2.2
def qki(E:Ent):List (ByteArray × Rat):=E.map fun e=>(e.1,e.2.2)
def q73:NV:=⟨false,none,0,0,none,0,0⟩
def qix(E:Ent)(k:ByteArray):NV:=((E.find? fun e=>k==e.1).map (·.2.1)).getD q73
def qk7(E:Ent)(k:ByteArray):Rat:=((E.find? fun e=>k==e.1).map (·.2.2)).getD 0
def q5f(E:Ent)(k:ByteArray)(z:NV)(d:Rat):Ent:=
 if E.any (fun e=>k==e.1) then E.map (fun e=>if k==e.1 then(e.1,z,qk7 E k+d) else e) else E++[(k,z,qk7 E k+d)]
def q24(D:List (ByteArray × Rat))(k:ByteArray)(d:Rat):List (ByteArray × Rat):=
 if D.any (fun p=>k==p.1) then D.map (fun p=>if k==p.1 then(p.1,p.2+d) else p) else D++[(k,0+d)]
theorem qiw.later{W W':World}{r:Nat}{E:Ent}(h:qiw W r E)(hb:Below W.heap.size W W'):qiw W' r E:=⟨h.1.later hb,fun e he=>(h.2 e he).later hb⟩
theorem qpn.nodup{W:World}{r:Nat}{D:List (ByteArray × Value)}(h:qpn W r D):(D.map (·.1)).Nodup:=by
 obtain⟨es,clock,_,h2,h3⟩:=h
 have e:es.toList.map (·.key)=(D.map (·.1)).map Value.string:=by
  have:=congrArg (List.map Prod.fst) h2;rw[List.map_map,List.map_map] at this;rw[List.map_map];exact this
 have hnd:=h3.2.2;rw[e] at hnd;exact(List.pairwise_map.1 hnd).imp (fun hne he=>hne (congrArg Value.string he))
theorem qz9{E:Ent}(h:(E.map (·.1)).Nodup){e f:ByteArray × NV × Rat}(he:e ∈ E)(hf:f ∈ E)(hk:e.1=f.1):e=f:=by
 induction E with
 | nil=>cases he
 | cons a E ih=>
  rw[List.map_cons,List.nodup_cons] at h;rcases List.mem_cons.1 he with rfl|he'
  ·rcases List.mem_cons.1 hf with rfl|hf'
   ·rfl
   ·exact absurd (hk▸List.mem_map_of_mem (f:=(·.1)) hf') h.1
  ·rcases List.mem_cons.1 hf with rfl|hf'
   ·exact absurd (hk▸List.mem_map_of_mem (f:=(·.1)) he') h.1
   ·exact ih h.2 he' hf'
theorem qok{E:Ent}{k:ByteArray}:(E.find? fun e=>k==e.1)=none∧E.any (fun e=>k==e.1)=false∨∃e,(E.find? fun e=>k==e.1)=some e∧e ∈ E∧e.1=k∧E.any (fun e=>k==e.1)=true:=by
 cases h:E.find? fun e=>k==e.1 with
 | none=>
  left
  refine⟨rfl, ?_⟩;rw[List.any_eq_false];intro e he;have:=List.find?_eq_none.1 h e he;exact this
 | some e=>
  right
  refine⟨e,rfl,List.mem_of_find?_eq_some h, ?_, ?_⟩
  ·exact((qen _ _).1 (List.find?_some (p:=fun e:ByteArray × NV × Rat=>k==e.1) h)).symm
  ·rw[List.any_eq_true]
   exact⟨e,List.mem_of_find?_eq_some h,List.find?_some (p:=fun e:ByteArray × NV × Rat=>k==e.1) h⟩
theorem qiw.nodup{W:World}{r:Nat}{E:Ent}(h:qiw W r E):(E.map (·.1)).Nodup:=by
 have:=h.1.nodup;rw[List.map_map] at this;exact this
theorem qka{E:Ent}{k:ByteArray}{e:ByteArray × NV × Rat}(h:(E.find? fun e=>k==e.1)=some e):qk7 E k=e.2.2∧qix E k=e.2.1:=by
 unfold qk7 qix;rw[h];exact⟨rfl,rfl⟩
theorem qkb{E:Ent}{k:ByteArray}(h:(E.find? fun e=>k==e.1)=none):qk7 E k=0∧qix E k=q73:=by
 unfold qk7 qix;rw[h];exact⟨rfl,rfl⟩
theorem que(E:Ent)(k:ByteArray):qlw (E.map fun e=>(e.1,Value.agg #[.bool e.2.1.b,.slice e.2.1.p e.2.1.k e.2.1.c,.slice e.2.1.q e.2.1.j e.2.1.d])) k=(E.find? fun e=>k==e.1).map fun e=>Value.agg #[.bool e.2.1.b,.slice e.2.1.p e.2.1.k e.2.1.c,.slice e.2.1.q e.2.1.j e.2.1.d]:=by
 unfold qlw;rw[List.find?_map,Option.map_map];rfl
theorem qh3{W:World}{r:Nat}{E:Ent}(h:qiw W r E)(k:ByteArray):
  (Instr.lookup 122 (.map (some r)) (.string k) false).run Tryz.prog W = .ok (.agg #[.bool (qix E k).b,.slice (qix E k).p (qix E k).k (qix E k).c,.slice (qix E k).q (qix E k).j (qix E k).d]) W∧qaj W (.agg #[.bool (qix E k).b,.slice (qix E k).p (qix E k).k (qix E k).c,.slice (qix E k).q (qix E k).j (qix E k).d]) (qk7 E k):=by
 rcases qok (E:=E) (k:=k) with⟨h1,_⟩|⟨e,h1,h2,h3,_⟩
 ·obtain⟨q1,q2⟩:=qkb h1
  rw[q1,q2];refine⟨(qec W 122 9 80 Tryz.underlying122 Tryz.underlying9 r _ h.1.smap k (.agg #[.bool false,.slice none 0 0,.slice none 0 0]) (by kernel_rfl) (by rw[que,h1];rfl)).2, ?_⟩;exact qm9 W
 ·obtain⟨q1,q2⟩:=qka h1
  rw[q1,q2];exact⟨(qcn W 122 9 80 Tryz.underlying122 Tryz.underlying9 r _ h.1.smap k _ (by rw[que,h1];rfl)).2,h.2 e h2⟩
theorem q6p(E:Ent)(k:ByteArray)(z:NV)(d:Rat):za3 (E.map fun e=>(e.1,Value.agg #[.bool e.2.1.b,.slice e.2.1.p e.2.1.k e.2.1.c,.slice e.2.1.q e.2.1.j e.2.1.d])) k (.agg #[.bool z.b,.slice z.p z.k z.c,.slice z.q z.j z.d])=(q5f E k z d).map fun e=>(e.1,Value.agg #[.bool e.2.1.b,.slice e.2.1.p e.2.1.k e.2.1.c,.slice e.2.1.q e.2.1.j e.2.1.d]):=by
 have hany:(E.map fun e=>(e.1,Value.agg #[.bool e.2.1.b,.slice e.2.1.p e.2.1.k e.2.1.c,.slice e.2.1.q e.2.1.j e.2.1.d])).any (fun p=>k==p.1)=E.any (fun e=>k==e.1):=by rw[List.any_map];rfl
 unfold za3 q5f;rw[hany];by_cases h:E.any (fun e=>k==e.1)=true
 ·rw[if_pos h,if_pos h,List.map_map,List.map_map]
  refine List.map_congr_left fun e _ => ?_;show(if(k==e.1)=true then _ else _)=_;by_cases hk:(k==e.1)=true
  ·simp[hk]
  ·simp[hk]
 ·rw[if_neg h,if_neg h,List.map_append]
  rfl
theorem q25{W:World}{r:Nat}{E:Ent}(h:qiw W r E)(k:ByteArray)(z:NV)(d:Rat):qki (q5f E k z d)=q24 (qki E) k d:=by
 have hany:(qki E).any (fun p=>k==p.1)=E.any (fun e=>k==e.1):=by unfold qki;rw[List.any_map];rfl
 unfold q24;rw[hany];unfold qki q5f;rcases qok (E:=E) (k:=k) with⟨h1,h2⟩|⟨e,h1,h2,h3,h4⟩
 ·rw[if_neg (by rw[h2];decide),if_neg (by rw[h2];decide),List.map_append,(qkb h1).1]
  rfl
 ·rw[if_pos h4,if_pos h4,List.map_map,List.map_map]
  refine List.map_congr_left fun f hf => ?_;show _=(if(k==f.1)=true then _ else _);by_cases hk:(k==f.1)=true
  ·have hfe:=qz9 h.nodup hf h2 (by rw[h3];exact((qen _ _).1 hk).symm)
   subst hfe;simp[hk,(qka h1).1]
  ·simp[hk]
theorem qnw{W:World}{r b o:Nat}{D:List (ByteArray × Value)}{v:Value}(h:qpn W r D)(hc:W.cell? ⟨b,o,none⟩=some v):b≠r:=by
 rintro rfl;obtain⟨es,clock,h1,_⟩:=h;simp[World.cell?,h1] at hc
theorem qpn.cell{W W':World}{r b o:Nat}{D:List (ByteArray × Value)}{v:Value}(h:qpn W r D)(hch:Chg r r W W')(hc:W.cell? ⟨b,o,none⟩=some v):W'.cell? ⟨b,o,none⟩=some v:=
 hch.cell hc (qnw h hc) (qnw h hc)
theorem qpn.nat{W W':World}{r:Nat}{D:List (ByteArray × Value)}{v:Value}{n:Nat}(h:qpn W r D)(hch:Chg r r W W')(hn:qaq W v n):qaq W' v n:=by
 obtain⟨h1,q,c,h2,h3,h4,h5⟩:=hn;refine⟨h1,q,c,h2,h3,h4, ?_⟩;rcases h5 with h5|⟨b,o,h6,h7⟩
 ·exact .inl h5
 ·exact .inr ⟨b,o,h6,fun i hi=>h.cell hch (h7 i hi)⟩
theorem qpn.num{W W':World}{r:Nat}{D:List (ByteArray × Value)}{v:Value}{q:Rat}(h:qpn W r D)(hch:Chg r r W W')(hn:qaj W v q):qaj W' v q:=by
 obtain⟨t,b,e,h1,h2⟩:=hn;exact⟨t,b,e,h.nat hch h1,h.nat hch h2⟩
theorem q6q{W:World}{r:Nat}{E:Ent}(h:qiw W r E)(k:ByteArray)(z:NV)(d:Rat)(hz:qaj W (.agg #[.bool z.b,.slice z.p z.k z.c,.slice z.q z.j z.d]) (qk7 E k+d)):
  ∃w',(Instr.mapUpdate 122 (.map (some r)) (.string k) (.agg #[.bool z.b,.slice z.p z.k z.c,.slice z.q z.j z.d])).run Tryz.prog W = .ok () w'∧qiw w' r (q5f E k z d)∧Chg r r W w'∧w'.heap.size=W.heap.size:=by
 obtain⟨w',h1,h2,h3,h4,h5⟩:=q6h (P:=Tryz.prog) W 122 9 80 Tryz.underlying122 Tryz.underlying9 r _ h.1 k (.agg #[.bool z.b,.slice z.p z.k z.c,.slice z.q z.j z.d]);have hch:Chg r r W w':=⟨by rw[Nat.min_self];exact h3,fun j _ hj _=>h5 j hj⟩;refine⟨w',h1,⟨by rw[←q6p E k z d];exact h2,fun e he => ?_⟩,hch,h4⟩;unfold q5f at he;split at he
 ·rw[List.mem_map] at he
  obtain⟨f,hf,rfl⟩:=he;split
  ·exact h.1.num hch hz
  ·exact h.1.num hch (h.2 f hf)
 ·rw[List.mem_append,List.mem_singleton] at he
  rcases he with he|rfl
  ·exact h.1.num hch (h.2 e he)
  ·exact h.1.num hch hz
theorem q9k{E:Ent}{k:ByteArray}{z:NV}{d:Rat}{m n:Nat}(h:∀e ∈ E,bd e.2.2 m)(hm:1≤m)(hd:bd d n):∀e ∈ q5f E k z d,bd e.2.2 (m+n+1):=by
 have hl:bd (qk7 E k) m:=by
  rcases qok (E:=E) (k:=k) with⟨h1,_⟩|⟨e,h1,h2,_⟩
  ·rw[(qkb h1).1];exact qjb _ hm
  ·rw[(qka h1).1];exact h e h2
 intro e he;unfold q5f at he;split at he
 ·rw[List.mem_map] at he
  obtain⟨f,hf,rfl⟩:=he;split
  ·exact qnr hl hd
  ·exact(h f hf).mono (by omega)
 ·rw[List.mem_append,List.mem_singleton] at he
  rcases he with he|rfl
  ·exact(h e he).mono (by omega)
  ·exact qnr hl hd
def qf1(m:Int)(D:List (ByteArray × Rat))(ss:List (ByteArray × ByteArray)):List (ByteArray × Rat):=ss.foldl (fun D s=>q24 D s.1 (qkh s*((m:Int):Rat))) D
def qfs(ls:List Lay):List (ByteArray × Rat):=ls.foldl (fun D x=>qf1 x.mass D x.shares) []
theorem quf(m:Int)(D:List (ByteArray × Rat))(ss:List (ByteArray × ByteArray))(s:ByteArray × ByteArray):qf1 m D (ss++[s])=q24 (qf1 m D ss) s.1 (qkh s*((m:Int):Rat)):=by unfold qf1;rw[List.foldl_append];rfl
theorem qne(ls:List Lay)(x:Lay):qfs (ls++[x])=qf1 x.mass (qfs ls) x.shares:=by unfold qfs;rw[List.foldl_append];rfl
theorem qha{x:Lay}(h:qdm x=0):0<x.mass∧x.mass≤999999999∧1≤x.shares.length∧x.shares.length≤64∧∀s ∈ x.shares,qaa s.2.data.toList=0:=by
 unfold qdm at h;split at h
 ·cases h
 ·split at h
  ·cases h
  ·unfold qc9 at h
   split at h
   ·cases h
   ·split at h
    ·cases h
    ·split at h
     ·rename_i h1;exact absurd h h1
     ·refine⟨by omega,by omega,by omega,by omega,fun s hs => ?_⟩
      have hz:qac (qbb ⟨#[]⟩ x.shares)=0:=by omega
      clear h
      have key:∀(l:List (ByteArray × ByteArray)) b,qac (qbb b l)=0→∀s ∈ l,qaa s.2.data.toList=0:=by
       intro l
       induction l with
       | nil=>intro b _ s hs;cases hs
       | cons a l ih=>
        intro b hf s hs;have h1:(if qaz b a=0 then qac (qbb a.1 l) else qaz b a)=0:=hf;by_cases ha:qaz b a=0
        ·rw[if_pos ha] at h1
         rcases List.mem_cons.1 hs with rfl|hs
         ·exact qkk ha
         ·exact ih _ h1 s hs
        ·rw[if_neg ha] at h1;exact absurd h1 ha
      exact key _ _ hz s hs
def qpv(s:ByteArray × ByteArray)(ms:Int)(nn gs gl gp g k j:Nat)(y:NV)(W:World):Prop:=W.cell? ⟨gs,0,none⟩=some (.string s.1)∧W.cell? ⟨gl,1,none⟩=some (.int .i64 ms)∧W.cell? ⟨gp,k,none⟩=some (.slice (some ⟨g,0,none⟩) nn nn)∧W.cell? ⟨g,j*3,none⟩=some (.bool y.b)∧W.cell? ⟨g,j*3+1,none⟩=some (.slice y.p y.k y.c)∧W.cell? ⟨g,j*3+2,none⟩=some (.slice y.q y.j y.d)
theorem qpv.later{s:ByteArray × ByteArray}{ms:Int}{nn gs gl gp g k j:Nat}{y:NV}{W W':World}(h:qpv s ms nn gs gl gp g k j y W)(hb:Below W.heap.size W W'):qpv s ms nn gs gl gp g k j y W':=by
 obtain⟨h0,h1,h2,h3,h4,h5⟩:=h;refine⟨?_, ?_, ?_, ?_, ?_, ?_⟩
 ·rw[hb.cell (World.block_lt_of_cell? W _ h0)];exact h0
 ·rw[hb.cell (World.block_lt_of_cell? W _ h1)];exact h1
 ·rw[hb.cell (World.block_lt_of_cell? W _ h2)];exact h2
 ·rw[hb.cell (World.block_lt_of_cell? W _ h3)];exact h3
 ·rw[hb.cell (World.block_lt_of_cell? W _ h4)];exact h4
 ·rw[hb.cell (World.block_lt_of_cell? W _ h5)];exact h5
theorem qpv.keep{s:ByteArray × ByteArray}{ms:Int}{nn gs gl gp g k j r:Nat}{y:NV}{W W':World}{D:List (ByteArray × Value)}(h:qpv s ms nn gs gl gp g k j y W)(hm:qpn W r D)(hc:Chg r r W W'):qpv s ms nn gs gl gp g k j y W':=by
 obtain⟨h0,h1,h2,h3,h4,h5⟩:=h;exact⟨hm.cell hc h0,hm.cell hc h1,hm.cell hc h2,hm.cell hc h3,hm.cell hc h4,hm.cell hc h5⟩
theorem qyf{E:Ent}{k:ByteArray}{m:Nat}(h:∀e ∈ E,bd e.2.2 m)(hm:1≤m):bd (qk7 E k) m:=by
 rcases qok (E:=E) (k:=k) with⟨h1,_⟩|⟨e,h1,h2,_⟩
 ·rw[(qkb h1).1];exact qjb _ hm
 ·rw[(qka h1).1];exact h e h2
theorem qug(l:List Lay)(b o c gp:Nat)(w:World)(hrow:qfk w b o l)(hl:l.length≤64)(hok:∀x ∈ l,qdm x=0)(hr:qdb q5e w gp l.length (l.map qrb)):
  Calls Tryz.prog 65 #[.slice (some ⟨b,o,none⟩) l.length c,.slice (some ⟨gp,0,none⟩) l.length l.length] w fun e w'=>(∃E,e = .returned (.map (some w.heap.size))∧qiw w' w.heap.size E∧qki E=qfs l∧∀e ∈ E,bd e.2.2 (602*64*64+1))∧Below w.heap.size w w':=by
 have hmm:=@run_makeMap Tryz.prog;have HROW:=hid hrow;have HOK:=hid hok;have HR:=hid hr;have HM0:=hid (q2q w);have HB0:Hid (Below w.heap.size w (w.alloc (.map #[] 0))):=hid ((Below.refl _ _).alloc (Nat.le_refl _) _);clear hrow hok hr;go_enter Tryz.func65,Tryz.ntmps65;go_wp2_with fail;clear hmm;generalize w.alloc (.map #[] 0)=w0 at *
 go_loopw [13] (fun i wr=>∃k:Nat,k≤l.length∧i = .int .i64 k∧∃E:Ent,Hid (qiw wr w.heap.size E)∧Hid (qki E=qfs (l.take k))∧Hid (∀e ∈ E,bd e.2.2 (602*64*k+1))∧Hid (Below w.heap.size w wr)) (fun i _=>l.length-(intOf i).toNat)
 case atStart=>exact⟨0,Nat.zero_le _,rfl,[],hid ⟨HM0.out,by intro e he;cases he⟩,hid rfl,hid (by intro e he;cases he),HB0⟩
 case round=>
  obtain⟨k,hk,rfl,E0,HN,HD,HBD,HB⟩:=hrel;clear HM0 HB0;by_cases hkl:k<l.length
  ·obtain⟨x,hsk⟩:∃x,l[k]? = some x:=⟨l[k],List.getElem?_eq_getElem hkl⟩
   obtain⟨e0,e1,p,cc,e2,hv⟩:=HROW.out k x hsk;obtain⟨hm0,hm1,hs0,hs1,hsc⟩:=qha (HOK.out x (List.mem_of_getElem? hsk));have hc0:wr.cell? ⟨b,o+k*3,none⟩=some (.string x.grain):=by rw[HB.out.cell (World.block_lt_of_cell? w _ e0)];exact e0
   have hc1:wr.cell? ⟨b,o+k*3+1,none⟩=some (.int .i64 x.mass):=by rw[HB.out.cell (World.block_lt_of_cell? w _ e1)];exact e1
   have hc2:wr.cell? ⟨b,o+k*3+2,none⟩=some (.slice p x.shares.length cc):=by rw[HB.out.cell (World.block_lt_of_cell? w _ e2)];exact e2
   have hal:Below wr.heap.size wr (wr.alloc (.cells #[.string x.grain,.int .i64 x.mass,.slice p x.shares.length cc] 64)):=(Below.refl _ _).alloc (Nat.le_refl _) _;have ho:=qe5 wr 64 (.string x.grain) (.int .i64 x.mass) (.slice p x.shares.length cc);obtain⟨a1,_⟩:=ho.2 1 (by omega);obtain⟨a2,_⟩:=ho.2 2 (by omega);simp only[qh1,if_pos,Nat.one_ne_zero] at a1 a2;obtain⟨p',cc',hpe,_,_,hcells⟩:=hv;obtain⟨bs,os,rfl,hspan⟩:=hcells.resolve_left (by omega);cases hpe
   obtain⟨cs,⟨g,rfl,hnums⟩,hcc⟩:=HR.out.get k (qrb x) (by rw[List.getElem?_map,hsk];rfl);have hp0:=hcc 0 _ rfl;simp only[q5e,Nat.mul_one,Nat.add_zero] at hp0;have hqs:(qrb x).length=x.shares.length:=by unfold qrb;rw[List.length_map]
   have HSP:=hid hspan;have HNUMS:=hid hnums;have HP0:=hid hp0;have HSC:=hid hsc;have HTK:Hid (qfs (l.take (k+1))=qf1 x.mass (qfs (l.take k)) x.shares):=hid (by rw[qb9 hsk,qne]);have HN1:=hid (HN.out.later hal);have HB1:=hid (HB.out.trans (hal.mono HB.out.size));have HGL:Hid (w.heap.size<wr.heap.size):=hid HN.out.1.lt;have HA1:=hid a1;have HLQ:Hid (qrb x=x.shares.map qkh):=hid rfl;clear e0 e1 e2 hsk hal ho hcells hcc hp0 hnums hspan HN HB hsc a1;generalize qrb x=qs at *;generalize hss:x.shares=ss at *;generalize hms:x.mass=ms at *;generalize hnn:qs.length=nn at *;have bm:=ql2 ms (by omega) hm1;go_wp2_with fail;clear a2 hc0 hc1 hc2;generalize wr.alloc (.cells #[.string x.grain,.int .i64 ms,.slice (some ⟨bs,os,none⟩) ss.length cc] 64)=w1 at *;generalize hgl:wr.heap.size=gl at *
   go_loopw [21] (fun i wi=>∃j:Nat,j≤ss.length∧i = .int .i64 j∧∃E:Ent,Hid (qiw wi w.heap.size E)∧Hid (qki E=qf1 ms (qfs (l.take k)) (ss.take j))∧Hid (∀e ∈ E,bd e.2.2 (602*64*k+1+602*j))∧Hid (Below w.heap.size w wi)∧Hid (wi.cell? ⟨gl,1,none⟩=some (.int .i64 ms))) (fun i _=>ss.length-(intOf i).toNat)
   case atStart=>exact⟨0,Nat.zero_le _,rfl,E0,HN1,HD,HBD,HB1,HA1⟩
   case round=>
    obtain⟨j,hj,rfl,E,HNM,HDE,HBE,HBW,HCL⟩:=hrel;clear HN1 HB1 HA1 HD HBD;by_cases hjl:j<ss.length
    ·obtain⟨s,hs⟩:∃s,ss[j]? = some s:=⟨ss[j],List.getElem?_eq_getElem hjl⟩
     obtain⟨f0,f1⟩:=HSP.out j s hs;have c0:wr.cell? ⟨bs,os+j*2,none⟩=some (.string s.1):=by rw[HBW.out.cell (World.block_lt_of_cell? w _ f0)];exact f0
     have c1:wr.cell? ⟨bs,os+j*2+1,none⟩=some (.string s.2):=by rw[HBW.out.cell (World.block_lt_of_cell? w _ f1)];exact f1
     have hal:Below wr.heap.size wr (wr.alloc (.cells #[.string s.1,.string s.2] 69)):=(Below.refl _ _).alloc (Nat.le_refl _) _;have hbw:=HBW.out.trans (hal.mono HBW.out.size);obtain⟨x0,x1⟩:=qag (qbl wr 69 (.string s.1) (.string s.2));obtain⟨y,⟨n0,n1,n2⟩,hy⟩:=(HNUMS.out.later hbw).nv j (qkh s) (by rw[HLQ.out,List.getElem?_map,hs];rfl);rw[Nat.zero_add] at n0 n1 n2
     have hpc:(wr.alloc (.cells #[.string s.1,.string s.2] 69)).cell? ⟨gp,k,none⟩=some (.slice (some ⟨g,0,none⟩) nn nn):=by
      rw[hbw.cell (p:=⟨gp,k,none⟩) (World.block_lt_of_cell? w _ HP0.out)];exact HP0.out
     have hlc:(wr.alloc (.cells #[.string s.1,.string s.2] 69)).cell? ⟨gl,1,none⟩=some (.int .i64 ms):=by
      rw[hal.cell (p:=⟨gl,1,none⟩) (World.block_lt_of_cell? wr _ HCL.out)];exact HCL.out
     have bq:=qiu (HSC.out s (List.mem_of_getElem? hs));have bq':bd (qkh s) 600:=bq;have HWH:=hid (qcr (qe0 ms (wr.alloc (.cells #[.string s.1,.string s.2] 69)).drew (by omega) (by omega)));have HNM1:=hid (HNM.out.later (hal.trans ((Below.refl _ _).drew)));have HC0:Hid (qpv s ms nn wr.heap.size gl gp g k j y (wr.alloc (.cells #[.string s.1,.string s.2] 69)).drew):=hid ⟨x0,hlc,hpc,n0,n1,n2⟩;have HY:=hid (hy.later ((Below.refl _ _).drew));have HBW1:=hid (hbw.trans (((Below.refl _ _).drew).mono hbw.size));have HTJ:Hid (qf1 ms (qfs (l.take k)) (ss.take (j+1))=q24 (qf1 ms (qfs (l.take k)) (ss.take j)) s.1 (qkh s*((ms:Int):Rat))):=hid (by rw[qb9 hs,quf]);have hjn:j<nn:=by rw[hqs];exact hjl
     clear f0 f1 hal hbw x1 hpc hlc bq hs hy HNM HBW HCL;generalize qkh s=q at *;generalize hgs:wr.heap.size=gs at *;go_wp2_with fail
     try rw[hgs]
     clear c0 c1;generalize (wr.alloc (.cells #[.string s.1,.string s.2] 69))=w2 at *;have e0:w2.drew.cell? ⟨gs,0,none⟩=some (.string s.1)∧w2.drew.cell? ⟨gl,1,none⟩=some (.int .i64 ms)∧w2.drew.cell? ⟨gp,k,none⟩=some (.slice (some ⟨g,0,none⟩) nn nn)∧w2.drew.cell? ⟨g,j*3,none⟩=some (.bool y.b)∧w2.drew.cell? ⟨g,j*3+1,none⟩=some (.slice y.p y.k y.c)∧w2.drew.cell? ⟨g,j*3+2,none⟩=some (.slice y.q y.j y.d):=HC0.out;obtain⟨L0,HZ0⟩:=qh3 HNM1.out s.1;have bl:=(qyf (k:=s.1) HBE.out (by omega)).rs;have bqm:=(qe8 bq' bm).rs;have bq1:=bq'.rs;have bm1:=bm.rs;have HCAP:Hid (rs (qk7 E s.1)+rs (q*((ms:Int):Rat))+2≤Cap∧rs q+rs ((ms:Int):Rat)≤Cap):=hid (by unfold Cap;omega);clear bl bqm bq1 bm1 n0 n1 n2
     go_region_held3 (fun W=>W.cell? ⟨gs,0,none⟩=some (.string s.1)∧W.cell? ⟨gl,1,none⟩=some (.int .i64 ms)∧W.cell? ⟨gp,k,none⟩=some (.slice (some ⟨g,0,none⟩) nn nn)∧W.cell? ⟨g,j*3,none⟩=some (.bool y.b)∧W.cell? ⟨g,j*3+1,none⟩=some (.slice y.p y.k y.c)∧W.cell? ⟨g,j*3+2,none⟩=some (.slice y.q y.j y.d)) (first|with_reducible exact eA|with_reducible exact eB|with_reducible exact eC|with_reducible exact eD|exact e0)
      (first
       | (go_at_call 38;((with_reducible refine HWH.out.mono ?_);rintro e wA ⟨⟨t1,rfl,hn⟩,hb⟩;have HV1:=hid hn;have HYA:=hid (HY.out.later hb);have HBA:=hid (HBW1.out.trans (hb.mono HBW1.out.size));have HNA:=hid (HNM1.out.later hb);have HCA:=hid (HC0.out.later hb);have eA:wA.cell? ⟨gs,0,none⟩=some (.string s.1)∧wA.cell? ⟨gl,1,none⟩=some (.int .i64 ms)∧wA.cell? ⟨gp,k,none⟩=some (.slice (some ⟨g,0,none⟩) nn nn)∧wA.cell? ⟨g,j*3,none⟩=some (.bool y.b)∧wA.cell? ⟨g,j*3+1,none⟩=some (.slice y.p y.k y.c)∧wA.cell? ⟨g,j*3+2,none⟩=some (.slice y.q y.j y.d):=HCA.out;obtain⟨LA,HZA⟩:=qh3 HNA.out s.1;clear hn hb))
       | (go_at_call 40;((with_reducible refine(qcr (qd3 _ _ _ _ wA HYA.out HV1.out HCAP.out.2)).mono ?_);rintro e wB ⟨⟨t2,rfl,hn⟩,hb⟩;have HV2:=hid hn;have HBB:=hid (HBA.out.trans (hb.mono HBA.out.size));have HNB:=hid (HNA.out.later hb);have HCB:=hid (HCA.out.later hb);have eB:wB.cell? ⟨gs,0,none⟩=some (.string s.1)∧wB.cell? ⟨gl,1,none⟩=some (.int .i64 ms)∧wB.cell? ⟨gp,k,none⟩=some (.slice (some ⟨g,0,none⟩) nn nn)∧wB.cell? ⟨g,j*3,none⟩=some (.bool y.b)∧wB.cell? ⟨g,j*3+1,none⟩=some (.slice y.p y.k y.c)∧wB.cell? ⟨g,j*3+2,none⟩=some (.slice y.q y.j y.d):=HCB.out;obtain⟨LB,HZB⟩:=qh3 HNB.out s.1;clear hn hb))
       | (go_at_call 79;((with_reducible refine(qcr (qia _ _ _ _ wB HZB HV2.out HCAP.out.1)).mono ?_);rintro e wC ⟨⟨t3,rfl,hn⟩,hb⟩;have HBC:=hid (HBB.out.trans (hb.mono HBB.out.size));have HNC:=hid (HNB.out.later hb);have HCC:=hid (HCB.out.later hb);have eC:wC.cell? ⟨gs,0,none⟩=some (.string s.1)∧wC.cell? ⟨gl,1,none⟩=some (.int .i64 ms)∧wC.cell? ⟨gp,k,none⟩=some (.slice (some ⟨g,0,none⟩) nn nn)∧wC.cell? ⟨g,j*3,none⟩=some (.bool y.b)∧wC.cell? ⟨g,j*3+1,none⟩=some (.slice y.p y.k y.c)∧wC.cell? ⟨g,j*3+2,none⟩=some (.slice y.q y.j y.d):=HCC.out;obtain⟨LC,HZC⟩:=qh3 HNC.out s.1;obtain⟨wD,hrunD,hND,hchD,hszD⟩:=q6q HNC.out s.1 t3 _ hn;have HND:=hid hND;have HBD:=hid (hchD.1);have eD:wD.cell? ⟨gs,0,none⟩=some (.string s.1)∧wD.cell? ⟨gl,1,none⟩=some (.int .i64 ms)∧wD.cell? ⟨gp,k,none⟩=some (.slice (some ⟨g,0,none⟩) nn nn)∧wD.cell? ⟨g,j*3,none⟩=some (.bool y.b)∧wD.cell? ⟨g,j*3+1,none⟩=some (.slice y.p y.k y.c)∧wD.cell? ⟨g,j*3+2,none⟩=some (.slice y.q y.j y.d):=HCC.out.keep HNC.out.1 hchD;clear hn hb hchD hszD hND)))
     all_goals
      have HBF:=hid (HBC.out.trans (HBD.out.mono (by rw[Nat.min_self];exact Nat.le_refl _)));have HDF:Hid (qki (q5f E s.1 t3 (q*((ms:Int):Rat)))=qf1 ms (qfs (l.take k)) (ss.take (j+1))):=hid (by rw[q25 HNC.out,HDE.out,HTJ.out]);have HBEF:Hid (∀e ∈ q5f E s.1 t3 (q*((ms:Int):Rat)),bd e.2.2 (602*64*k+1+602*(j+1))):=hid (fun e he=>(q9k HBE.out (by omega) (qe8 bq' bm) e he).mono (by omega));have HCF:Hid (wD.cell? ⟨gl,1,none⟩=some (.int .i64 ms)):=hid eD.2.1;go_wp2_with fail;go_roundw
      case rel=>exact⟨j+1,by omega,by go_num,_,HND,HDF,HBEF,HBF,HCF⟩
      case measure=>simp[intOf];omega
    ·obtain rfl:j=ss.length:=by omega
     have hD:=HDE.out;rw[List.take_length,←HTK.out] at hD;have HD2:=hid hD;have HBE2:Hid (∀e ∈ E,bd e.2.2 (602*64*(k+1)+1)):=hid (fun e he=>(HBE.out e he).mono (by omega));clear hD HDE HBE;go_wp2_with fail;go_roundw
     case rel=>exact⟨k+1,by omega,by go_num,E,HNM,HD2,HBE2,HBW⟩
     case measure=>simp[intOf];omega
  ·obtain rfl:k=l.length:=by omega
   have hD:=HD.out;rw[List.take_length] at hD;have HD2:=hid hD;have HBE2:Hid (∀e ∈ E0,bd e.2.2 (602*64*64+1)):=hid (fun e he=>(HBD.out e he).mono (by omega));clear hD HD HBD;go_wp2_with fail;go_ret;exact⟨⟨E0,rfl,HN.out,HD2.out,HBE2.out⟩,HB.out⟩
def MC(gb gm r:Nat)(ms:Int)(W:World):Prop:=W.cell? ⟨gb,0,none⟩=some (.map (some r))∧W.cell? ⟨gm,0,none⟩=some (.int .i64 ms)
theorem MC.later{gb gm r:Nat}{ms:Int}{W W':World}(h:MC gb gm r ms W)(hb:Below W.heap.size W W'):MC gb gm r ms W':=by
 obtain⟨h0,h1⟩:=h;refine⟨?_, ?_⟩
 ·rw[hb.cell (World.block_lt_of_cell? W _ h0)];exact h0
 ·rw[hb.cell (World.block_lt_of_cell? W _ h1)];exact h1
def qol(E:Ent)(ms:Int)(k:ByteArray):Rat:=qk7 E k/((ms:Int):Rat)
theorem q0a(gb gm r:Nat)(E:Ent)(ms:Int)(k:ByteArray)(w:World)(hc:MC gb gm r ms w)(hN:qiw w r E)(h1:1≤ms)(h2:ms≤999999999)(hbd:∀e ∈ E,bd e.2.2 (602*64*64+1)):
  Calls Tryz.prog 110 #[.string k,.pointer (some ⟨gb,0,none⟩),.pointer (some ⟨gm,0,none⟩)] w fun e w'=>e = .returned (.tuple #[.agg #[.string k,.string (qc8 (qol E ms k))],.int .i64 (qfj (qol E ms k):Nat)])∧Below w.heap.size w w':=by
 have hal:Below w.heap.size w (w.alloc (.cells #[.string ⟨#[]⟩,.string ⟨#[]⟩] 69)):=(Below.refl _ _).alloc (Nat.le_refl _) _;have HAL:=hid (hal.trans ((Below.refl w.heap.size _).drew));have HO:=hid ((qbl w 69 (.string ⟨#[]⟩) (.string ⟨#[]⟩)).later ((Below.refl _ _).drew));have HC0:=hid ((hc.later hal).later ((Below.refl _ _).drew));have HN0:=hid ((hN.later hal).later ((Below.refl _ _).drew));have bm:=ql2 ms (by omega) h2;have bl:=qyf (k:=k) hbd (by omega)
 have HCAP:Hid (rs (qk7 E k)+rs ((ms:Int):Rat)≤Cap∧rs (qol E ms k)≤Cap):=hid (by
  have a1:=bl.rs;have a2:=bm.rs;have a3:=(qns bl bm).rs
  unfold qol Cap;omega)
 have HNZ:Hid (((ms:Int):Rat).num≠0):=hid (by show ms≠0;omega);have HWH:=hid (qcr (qe0 ms (w.alloc (.cells #[.string ⟨#[]⟩,.string ⟨#[]⟩] 69)).drew (by omega) (by omega)));obtain⟨L0,HZ0⟩:=qh3 HN0.out k;have e0:(w.alloc (.cells #[.string ⟨#[]⟩,.string ⟨#[]⟩] 69)).drew.cell? ⟨gb,0,none⟩=some (.map (some r))∧(w.alloc (.cells #[.string ⟨#[]⟩,.string ⟨#[]⟩] 69)).drew.cell? ⟨gm,0,none⟩=some (.int .i64 ms):=HC0.out;clear hal hc hN bm bl hbd;go_enter Tryz.func110,Tryz.ntmps110;go_wp2_with fail;generalize w.alloc (.cells #[.string ⟨#[]⟩,.string ⟨#[]⟩] 69)=w1 at *
 go_region_held3 (fun W=>W.cell? ⟨gb,0,none⟩=some (.map (some r))∧W.cell? ⟨gm,0,none⟩=some (.int .i64 ms)) (first|with_reducible exact eA|with_reducible exact eB|with_reducible exact eC|exact e0)
  (first
   | (go_at_call 38;((with_reducible refine HWH.out.mono ?_);rintro e wA ⟨⟨t1,rfl,hn⟩,hb⟩;have HV1:=hid hn;have HBA:=hid (HAL.out.trans (hb.mono HAL.out.size));have HNA:=hid (HN0.out.later hb);have HOA:=hid (HO.out.later (hb.mono HO.out.1));have HCA:=hid (HC0.out.later hb);have eA:wA.cell? ⟨gb,0,none⟩=some (.map (some r))∧wA.cell? ⟨gm,0,none⟩=some (.int .i64 ms):=HCA.out;obtain⟨LA,HZA⟩:=qh3 HNA.out k;clear hn hb))
   | (go_at_call 41;((with_reducible refine(qcr (qfo _ _ _ _ wA HZA HV1.out HNZ.out HCAP.out.1)).mono ?_);rintro e wB ⟨⟨t2,rfl,hn⟩,hb⟩;have HV2:Hid (qaj wB (.agg #[.bool t2.b,.slice t2.p t2.k t2.c,.slice t2.q t2.j t2.d]) (qol E ms k)):=hid hn;have HBB:=hid (HBA.out.trans (hb.mono HBA.out.size));have HOB:=hid (HOA.out.later (hb.mono HOA.out.1));have HCB:=hid (HCA.out.later hb);have eB:wB.cell? ⟨gb,0,none⟩=some (.map (some r))∧wB.cell? ⟨gm,0,none⟩=some (.int .i64 ms):=HCB.out;clear hn hb))
   | (go_at_call 56;((with_reducible refine(qjc _ _ wB HV2.out HCAP.out.2).mono ?_);rintro e wC h;obtain⟨rfl,hb⟩:=qm6 h;have HBC:=hid (HBB.out.trans (hb.mono HBB.out.size));have HOC:=hid (HOB.out.later (hb.mono HOB.out.1));have HCC:=hid (HCB.out.later hb);have eC:wC.cell? ⟨gb,0,none⟩=some (.map (some r))∧wC.cell? ⟨gm,0,none⟩=some (.int .i64 ms):=HCC.out;obtain⟨⟨r0,g0'⟩,⟨r1,g1⟩⟩:=qax HOC.out;clear hb h)))
 all_goals
  have HBF:=hid (qbk HBC.out (Nat.le_refl _) (.string k) (.string (qc8 (qol E ms k))));go_wp2_with fail;refine bodyPost_ret (v := .tuple #[.agg #[.string k,.string (qc8 (qol E ms k))],.int .i64 (qfj (qol E ms k):Nat)]) ?_ rfl ?_
  ·simp[results,Tryz.results110,go_sem,r0,r1]
  ·exact⟨rfl,HBF.out⟩
def shK:qvm (ByteArray × ByteArray) where
 ty:=69
 size:=2
 ok:=fun c=>∃s,c = .string s
 E:=fun _ cs x=>cs=[.string x.1,.string x.2]
theorem qpw:shK.Law where
 pos:=by show 0<2;omega
 cells:=by
  rintro W cs x rfl;refine⟨rfl,fun c hc => ?_⟩;simp only[List.mem_cons,List.not_mem_nil,or_false] at hc;rcases hc with rfl|rfl<;>exact⟨⟨_,rfl⟩,rfl⟩
 later:=by
  rintro W W' cs x rfl _;rfl
 set:=by
  rintro W g cur ty fr cs x cs' rfl _ _;rfl
def qrd(W:World)(b o:Nat)(l:List ByteArray):Prop:=∀(j:Nat) (s:ByteArray),l[j]? = some s→W.cell? ⟨b,o+j,none⟩=some (.string s)
theorem qrd.later{W W':World}{b o:Nat}{l:List ByteArray}(h:qrd W b o l)(hb:Below W.heap.size W W'):qrd W' b o l:=fun j s hj=>by
 rw[hb.cell (World.block_lt_of_cell? W _ (h j s hj))];exact h j s hj
theorem q6r(n:Nat)(hn:n≤1048576)(w:World):
  (Instr.makeSlice 62 (.int .i64 0) (.int .i64 (n:Int))).run Tryz.prog w = .ok (.slice (some ⟨w.heap.size,0,none⟩) 0 n) (w.alloc (.cells (madeCells #[.string ⟨#[]⟩,.string ⟨#[]⟩] (n*2)) 69)):=by
 obtain⟨i0,hi,hz0,hz1,hz2⟩:=info_parts (show(Tryz.prog.info? 69).map (fun i=>(i.zero,i.size,i.bytes))=some (some (.agg #[.string ⟨#[]⟩,.string ⟨#[]⟩]),2,32) by kernel_rfl);have h:=run_make (P:=Tryz.prog) w 62 69 i0 _ Tryz.underlying62 hi hz0 .i64 .i64 0 (n:Int) (Int.le_refl _) (by omega) (by rw[hz2];omega) (by omega);rw[hz1] at h
 simpa [Value.cells] using h
theorem q6s(gb gm r:Nat)(E:Ent)(ms:Int)(l:List ByteArray)(b o c:Nat)(w:World)(hrow:qrd w b o l)(hl:l.length≤64)(hmc:MC gb gm r ms w)(hN:qiw w r E)(h1:1≤ms)(h2:ms≤999999999)(hbd:∀e ∈ E,bd e.2.2 (602*64*64+1)):
  Calls Tryz.prog 107 #[.slice (some ⟨b,o,none⟩) l.length c,.func (.func 110) #[] #[.pointer (some ⟨gb,0,none⟩),.pointer (some ⟨gm,0,none⟩)]] w
   (qjh shK (l.map fun s=>qfj (qol E ms s)) (l.map fun s=>(s,qc8 (qol E ms s))) w):=by
 have HROW:=hid hrow;have HCL:Hid (∀W s,Below w.heap.size w W→Calls Tryz.prog 110 #[.string s,.pointer (some ⟨gb,0,none⟩),.pointer (some ⟨gm,0,none⟩)] W fun e w'=>e = .returned (.tuple #[.agg #[.string s,.string (qc8 (qol E ms s))],.int .i64 (qfj (qol E ms s):Nat)])∧Below W.heap.size W w'):=hid fun W s hW=>q0a gb gm r E ms s W (hmc.later hW) (hN.later hW) h1 h2 hbd;have hmk:=q6r l.length (by omega);obtain⟨i0,hi,hz0,hz1,hz2⟩:=info_parts (show(Tryz.prog.info? 69).map (fun i=>(i.zero,i.size,i.bytes))=some (some (.agg #[.string ⟨#[]⟩,.string ⟨#[]⟩]),2,32) by kernel_rfl);have HI:=hid hi;clear hrow hi hz0 hz2 hmc hN hbd
 have HN0:=hid (qk1 qpw w l.length (l.length*2) #[.string ⟨#[]⟩,.string ⟨#[]⟩] rfl rfl (by
  intro c hc;simp only[List.mem_cons,List.not_mem_nil,or_false] at hc
  rcases hc with rfl|rfl<;>exact⟨_,rfl⟩))
 have HB0:Hid (Below w.heap.size w (w.alloc (.cells (madeCells #[.string ⟨#[]⟩,.string ⟨#[]⟩] (l.length*2)) 69))):=hid ((Below.refl _ _).alloc (Nat.le_refl _) _);obtain⟨ef,hef⟩:∃ef:ByteArray→Nat,ef=fun s=>qfj (qol E ms s):=⟨_,rfl⟩;obtain⟨tf,htf⟩:∃tf:ByteArray→ByteArray,tf=fun s=>qc8 (qol E ms s):=⟨_,rfl⟩;have e1:∀s,qc8 (qol E ms s)=tf s:=fun s=>by rw[htf]
 have e2:∀s,qfj (qol E ms s)=ef s:=fun s=>by rw[hef]
 simp only[e1,e2] at HCL ⊢;clear e1 e2 hef htf;obtain⟨pf,hpf⟩:∃pf:ByteArray→ByteArray × ByteArray,pf=fun s=>(s,tf s):=⟨_,rfl⟩;have HPF:Hid (∀s,pf s=(s,tf s)):=hid fun s=>by rw[hpf]
 rw[show(l.map fun s=>(s,tf s))=l.map pf from by rw[hpf],show(l.map fun s=>ef s)=l.map ef from rfl];clear hpf;go_enter Tryz.func107,Tryz.ntmps107;go_wp2_with fail;clear hmk
 replace HN0:Hid (qdb shK (w.alloc (.cells (madeCells #[.string ⟨#[]⟩,.string ⟨#[]⟩] (l.length*2)) 69)) w.heap.size l.length []):=HN0
 generalize w.alloc (.cells (madeCells #[.string ⟨#[]⟩,.string ⟨#[]⟩] (l.length*2)) 69)=w0 at *
 go_loopw [6,16] (fun r i wr=>∃k:Nat,k≤l.length∧i = .int .i64 k∧r = .slice (some ⟨w.heap.size,0,none⟩) k l.length∧Hid (qdb shK wr w.heap.size l.length ((l.take k).map pf))∧Hid (qac ((l.take k).map ef)=0)∧Hid (Below w.heap.size w wr)) (fun _ i _=>l.length-(intOf i).toNat)
 case atStart=>exact⟨0,Nat.zero_le _,rfl,rfl,HN0,hid rfl,HB0⟩
 case round=>
  obtain⟨k,hk,rfl,rfl,HN,HE,HB⟩:=hrel;clear HN0 HB0;by_cases hkl:k<l.length
  ·obtain⟨s,hsk⟩:∃s,l[k]? = some s:=⟨l[k],List.getElem?_eq_getElem hkl⟩
   have e0:=HROW.out k s hsk;have hc0:wr.cell? ⟨b,o+k,none⟩=some (.string s):=by rw[HB.out.cell (World.block_lt_of_cell? w _ e0)];exact e0
   have HRD:=hid (HCL.out wr s HB.out);have HSK:=hid hsk;clear e0 hsk;by_cases hc:ef s=0
   ·have HE2:=hid (qhy ef HSK.out HE.out hc)
    rw[hc] at HRD
    have hqs:((l.take k).map pf)++[(s,tf s)]=(l.take (k+1)).map pf:=by
     rw[qb9 HSK.out,List.map_append,←HPF.out];rfl
    have HQS:=hid hqs;have hql:((l.take k).map pf).length=k:=by rw[List.length_map,List.length_take];omega
    have HN1:=HN;have HB1:=HB;clear HE hc hqs HN HB;generalize tf s=q at *;generalize ((l.take k).map pf)=qs at *;go_wp2_with fail;refine HRD.out.mono ?_;rintro e w1 ⟨rfl,hb⟩;have hal:Below w1.heap.size w1 (w1.alloc (.cells #[.string s,.string q] 69)):=(Below.refl _ _).alloc (Nat.le_refl _) _;have HN2:=hid ((HN1.out.later qpw hb).later qpw hal);have HBB:=hid (HB1.out.trans (hb.mono HB1.out.size));have hbs:w.heap.size≤w1.heap.size:=HBB.out.size;have HB2:=hid (HBB.out.trans (hal.mono hbs));obtain⟨y0,y1⟩:=qag (qbl w1 69 (.string s) (.string q));have hal2:Below (w1.alloc (.cells #[.string s,.string q] 69)).heap.size (w1.alloc (.cells #[.string s,.string q] 69)) ((w1.alloc (.cells #[.string s,.string q] 69)).alloc (.cells #[.string s,.string q] 69)):=(Below.refl _ _).alloc (Nat.le_refl _) _;obtain⟨cur,hcur,hfit,hnew,hbel⟩:=(HN2.out.later qpw hal2).push qpw (cs:=[.string s,.string q]) (x:=(s,q)) (by rw[hql];exact hkl) rfl;have hnb:=heap_alloc_new (w1.alloc (.cells #[.string s,.string q] 69)) (.cells #[.string s,.string q] 69);rw[World.size_alloc] at hnb;rw[hql] at hfit hnew hbel;simp only[List.append_assoc,List.cons_append,List.nil_append,shK,List.length_cons,List.length_nil,Nat.zero_add,Nat.reduceAdd] at hnew hbel hfit hcur;have HNEW:Hid (qdb shK _ _ _ _):=hid hnew;have HBEL:=hid (HB2.out.trans ((hal2.mono (by rw[World.size_alloc];omega)).trans (hbel w.heap.size (Nat.le_refl _))));have HCUR:=hid hcur;have HNB:=hid hnb;have HFIT:=hid hfit;clear hal hal2 hbs hcur hfit hnew hbel hnb HN1 HB1 HN2 HB2 hql hb HBB hc0 HRD;go_wp2_with (at_builtin;refine qbi _ rfl _ _ 62 rfl 69 i0 2 Tryz.underlying62 HI.out hz1 w.heap.size k l.length cur rfl HCUR.out ⟨w1.heap.size+1,0,none⟩ 1 1 [.string s,.string q] rfl rfl (World.news_of_block HNB.out) ?qc1 (by omega) HFIT.out ?_)
    case qc1=>
     intro u hu;simp only[List.mem_cons,List.not_mem_nil,or_false] at hu;rcases hu with rfl|rfl<;>rfl
    clear y0 y1;go_wp2_with fail;go_roundw
    case rel=>exact⟨k+1,hkl,by go_num,rfl,hid (by rw[←HQS.out];exact HNEW.out),HE2,HBEL⟩
    case measure=>simp[intOf];omega
   ·have HF:=hid (qjg ef HSK.out HE.out hc)
    clear HE;generalize ef s=ck at *;generalize tf s=q at *;have hck:((ck:Int)==0)=false:=beq_eq_false_iff_ne.2 (by omega);have HCK:=hid hc;clear hc;go_wp2_with fail;refine HRD.out.mono ?_;rintro e w1 ⟨rfl,hb⟩;have h1:=HB.out.trans (hb.mono HB.out.size);have HB1:=hid (h1.trans ((Below.refl w.heap.size w1).alloc h1.size (.cells #[.string s,.string q] 69)));clear hb HB HRD hc0 h1;go_wp2_with fail;go_ret2;exact qpl HF.out HCK.out rfl HB1.out
  ·obtain rfl:k=l.length:=by omega
   have hE:=HE.out;have hN:=HN.out;rw[List.take_length] at hE hN;have HE':=hid hE;have HN':=hid hN;clear hE hN HE HN;go_wp2_with fail;go_ret2;exact qm8 HE'.out (by rw[List.length_map]) (Nat.le_refl _) rfl HN'.out HB.out
end Go.Proofs.YthjagoogkkgelaaGreatDoor
namespace Go.Proofs.YthjagoogkkgelaaGreatDoor
open Go.RowKit Go.Maps Go.Sort Go.Shelf
set_option maxRecDepth 100000
set_option maxHeartbeats 8000000
def q9l(l:List UInt8):ByteArray:=⟨l.toArray⟩
def qcj(ss:List (List UInt8)):List ByteArray:=(ss.mergeSort (fun x y=>decide (x≤y))).map q9l
def q0b(E:Ent)(ms:Int)(w:World)(e:Ending)(w':World):Prop:=
 if 64<E.length then e = .returned (.tuple #[.slice none 0 0,.int .i64 5])∧Below w.heap.size w w'
 else ∃ss:List (List UInt8),ss.Perm (E.map fun e=>e.1.data.toList)∧qjh shK ((qcj ss).map fun s=>qfj (qol E ms s)) ((qcj ss).map fun s=>(s,qc8 (qol E ms s))) w e w'
theorem q0c{α:Type}{K:qvm α}{errs:List Nat}{l:List α}{w W w':World}{e:Ending}(h:qjh K errs l W e w')(hb:Below w.heap.size w W):qjh K errs l w e w':=by
 obtain⟨h1,h2⟩:=h;refine⟨?_,hb.trans (h2.mono hb.size)⟩;split
 ·rename_i h0
  rw[if_pos h0] at h1;obtain⟨g,hg,he,hr⟩:=h1;exact⟨g,Nat.le_trans hb.size hg,he,hr⟩
 ·rename_i h0
  rw[if_neg h0] at h1;exact h1
theorem q0d{α:Type}{K:qvm α}{errs:List Nat}{l:List α}{W w':World}{e:Ending}(h:qjh K errs l W e w'):∃(p:Option Addr) (n c:Nat) (z:Int),e = .returned (.tuple #[.slice p n c,.int .i64 z]):=by
 obtain⟨h1,_⟩:=h;split at h1
 ·obtain⟨g,_,he,_⟩:=h1
  exact⟨_,_,_,_,he⟩
 ·exact⟨_,_,_,_,h1⟩
theorem q26(r:Nat)(W:World):Calls Tryz.prog 109 #[.map (some r)] W fun e w'=>e = .returned (.func (.func 166) #[] #[.pointer (some ⟨W.heap.size,0,none⟩)])∧w'=W.alloc (.cells #[.map (some r)] 122):=
 callsIn_wide.1 (Tryz.maps_Keys_109 (some r) W)
theorem qwm{r n:Nat}{E:Ent}{W:World}(hn:n=W.heap.size)(hN:qiw W r E)(hne:E≠[])(hl:E.length≤64)(hk:∀e ∈ E,e.1.size≤maxLen):
  Calls Tryz.prog 108 #[.func (.func 166) #[] #[.pointer (some ⟨n,0,none⟩)]] (W.alloc (.cells #[.map (some r)] 122)) fun e w'=>∃(ss:List (List UInt8)) (g c:Nat),ss.Perm (E.map fun e=>e.1.data.toList)∧e = .returned (.slice (some ⟨g,0,none⟩) (qcj ss).length c)∧qrd w' g 0 (qcj ss)∧Below W.heap.size W w':=by
 subst hn
 obtain⟨D0,hown,hperm,hsz⟩:=hN.1.owns (H:=Nat) (P:=Tryz.prog) (kt:=9) Tryz.underlying9 (fun p hp=>by
  rw[List.mem_map] at hp;obtain⟨e,he,rfl⟩:=hp
  exact hk e he) (by rw[List.length_map];omega)
 rw[List.length_map] at hsz;refine(callsIn_wide.1 (Tryz.slices_Sorted_keys_108_109 r _ D0 _ W hown (by rw[hsz];unfold maxLen;omega) (by rw[hsz];omega))).mono ?_;rintro e w' ⟨v,ss,rfl,hp,hrow,hnil,hb⟩;have hp2:=hp.trans hperm;rw[List.map_map] at hp2;have hlen:=hp2.length_eq;rw[List.length_map] at hlen
 have hss:ss≠[]:=by
  rintro rfl;exact hne (List.length_eq_zero_iff.1 hlen.symm)
 have hkl:(qcj ss).length=ss.length:=by unfold qcj;rw[List.length_map,List.length_mergeSort]
 obtain⟨h1,h2⟩:=hrow;rcases h2 with⟨h2,_⟩|⟨g,cap,cur,h3,h4,h5,h6,h7,h8,h9⟩
 ·exact absurd (hnil.1 h2) hss
 ·refine⟨ss,g,cap,hp2,by rw[h3,hkl],fun j s hs => ?_,((Below.refl _ _).alloc (Nat.le_refl _) _).trans (hb.mono (by rw[World.size_alloc];omega))⟩
  rw[Nat.zero_add,cell_of_row w' g _ cur _ (0,0) h5,←Array.getElem?_toList];have hj:j<ss.length:=by rw[←hkl];exact(List.getElem?_eq_some_iff.1 hs).1
  have h10:(cur.toList.take (ss.length*1))[j]? = some (Value.string s):=by
   rw[h9];unfold qcj at hs;rw[List.getElem?_map] at hs ⊢;cases hm:(ss.mergeSort (fun x y=>decide (x≤y)))[j]? with
   | none=>rw[hm] at hs;cases hs
   | some t=>
    rw[hm] at hs;simp only[Option.map_some,Option.some.injEq] at hs;subst hs;rfl
  rwa [List.getElem?_take_of_lt (by omega)] at h10
theorem quh(r:Nat)(E:Ent)(ms:Int)(w:World)(hN:qiw w r E)(hne:E≠[])(hk:∀e ∈ E,e.1.size≤maxLen)(h1:1≤ms)(h2:ms≤999999999)(hbd:∀e ∈ E,bd e.2.2 (602*64*64+1)):
  Calls Tryz.prog 64 #[.map (some r),.int .i64 ms] w (q0b E ms w):=by
 have hal1:Below w.heap.size w (w.alloc (.cells #[.map (some r)] 122)):=(Below.refl _ _).alloc (Nat.le_refl _) _;have hal:Below w.heap.size w ((w.alloc (.cells #[.map (some r)] 122)).alloc (.cells #[.int .i64 ms] 3)):=hal1.alloc (by simp) _;have HN2:=hid (hN.later hal);have HMC:Hid (MC w.heap.size (w.heap.size+1) r ms ((w.alloc (.cells #[.map (some r)] 122)).alloc (.cells #[.int .i64 ms] 3))):=hid ⟨by simp,by simp⟩;obtain⟨m0,m1⟩:((w.alloc (.cells #[.map (some r)] 122)).alloc (.cells #[.int .i64 ms] 3)).cell? ⟨w.heap.size,0,none⟩=some (.map (some r))∧((w.alloc (.cells #[.map (some r)] 122)).alloc (.cells #[.int .i64 ms] 3)).cell? ⟨w.heap.size+1,0,none⟩=some (.int .i64 ms):=HMC.out
 obtain⟨es,clock,hb,hes⟩:∃es clock,((w.alloc (.cells #[.map (some r)] 122)).alloc (.cells #[.int .i64 ms] 3)).heap[r]? = some (.map es clock)∧es.size=E.length:=by
  obtain⟨es,clock,g1,g2,_⟩:=HN2.out.1;refine⟨es,clock,g1, ?_⟩;have:=congrArg List.length g2;rw[List.length_map,List.length_map,List.length_map,Array.length_toList] at this;exact this
 have hrl:(Builtin.len_ #[122] 3 #[.map (some r)]).run Tryz.prog ((w.alloc (.cells #[.map (some r)] 122)).alloc (.cells #[.int .i64 ms] 3)) = .ok (.int .i64 (es.size:Nat)) ((w.alloc (.cells #[.map (some r)] 122)).alloc (.cells #[.int .i64 ms] 3)):=run_len_map _ _ _ r es clock (by kernel_rfl) hb;have HAL:=hid hal;by_cases hbig:64<E.length
 ·have HF:Hid (∀w',Below w.heap.size w w'→q0b E ms w (.returned (.tuple #[.slice none 0 0,.int .i64 5])) w'):=hid fun w' hb=>by
   unfold q0b;rw[if_pos hbig];exact⟨rfl,hb⟩
  have hgt:64<es.size:=by omega
  clear hal hal1 hN hbd hk hne;go_enter Tryz.func64,Tryz.ntmps64;go_wp2_with fail;go_ret2;exact HF.out _ HAL.out
 ·have hgt:¬64<es.size:=by omega
  have HF:Hid (∀(W:World) (ss:List (List UInt8)) e w',ss.Perm (E.map fun e=>e.1.data.toList)→Below w.heap.size w W→qjh shK ((qcj ss).map fun s=>qfj (qol E ms s)) ((qcj ss).map fun s=>(s,qc8 (qol E ms s))) W e w'→q0b E ms w e w'):=hid fun W ss e w' hp hb h=>by
   unfold q0b;rw[if_neg hbig];exact⟨ss,hp,q0c h hb⟩
  have HSC:=hid (qwm (n:=w.heap.size+1+1) (by simp) HN2.out hne (by omega) hk);have HKC:=hid (q26 r ((w.alloc (.cells #[.map (some r)] 122)).alloc (.cells #[.int .i64 ms] 3)))
  have HEM:Hid (∀W ss g c,Below ((w.alloc (.cells #[.map (some r)] 122)).alloc (.cells #[.int .i64 ms] 3)).heap.size ((w.alloc (.cells #[.map (some r)] 122)).alloc (.cells #[.int .i64 ms] 3)) W→ss.Perm (E.map fun e=>e.1.data.toList)→qrd W g 0 (qcj ss)→Calls Tryz.prog 107 #[.slice (some ⟨g,0,none⟩) (qcj ss).length c,.func (.func 110) #[] #[.pointer (some ⟨w.heap.size,0,none⟩),.pointer (some ⟨w.heap.size+1,0,none⟩)]] W (qjh shK ((qcj ss).map fun s=>qfj (qol E ms s)) ((qcj ss).map fun s=>(s,qc8 (qol E ms s))) W)):=hid fun W ss g c hW hp hs=>
   q6s _ _ r E ms _ g 0 c W hs (by have:=hp.length_eq;rw[List.length_map] at this;unfold qcj;rw[List.length_map,List.length_mergeSort];omega) (HMC.out.later hW) (HN2.out.later hW) h1 h2 hbd
  clear hal hal1 hN hbd hk hne;go_enter Tryz.func64,Tryz.ntmps64;go_wp2_with fail;refine HKC.out.mono ?_;rintro e w3 ⟨rfl,rfl⟩;go_wp2_with fail;refine HSC.out.mono ?_;rintro e w4 ⟨ss,g,c,hp,rfl,hs,hb⟩;have HEC:=hid (HEM.out w4 ss g c hb hp hs);have HFF:=hid (fun e w' h=>HF.out w4 ss e w' hp (HAL.out.trans (hb.mono HAL.out.size)) h);clear hp hs hb HEM HSC HKC HF;go_wp2_with fail;refine HEC.out.mono ?_;rintro e w5 h;have HR:=hid (HFF.out _ _ h);obtain⟨p,n,c',z,rfl⟩:=q0d h;clear h HFF HEC;go_wp2_with fail;go_ret2;exact HR.out
end Go.Proofs.YthjagoogkkgelaaGreatDoor
