/- Parts of the proof. -/
import Derived.Test.YtmopekkhmhhcaaaGreatFL
import Derived.Test.YtmopekkhmhhcaaaGreatFK34
set_option maxRecDepth 100000
set_option maxHeartbeats 16000000
namespace Go.Proofs.YtmopekkhmhhcaaaGreat
open Go.Proofs.Tryz
namespace Cd
open Go.RowKit
def z0m(k i v n:Int)(S:List (Int×Int))(D:List Int):Int:=
  if k<1∨4<k then 3 else if i<1∨1099511627776<i then 2
  else if z6U k=true/\(isV v=false∨n<1∨1125899906842624<n) then 2
  else if z8t k v n S.length D.length=true then 1
  else if z0d (-1) S=false∨z0h (-1) D=false then 2 else 0
theorem z5o(k i v n:Int)(S:List (Int×Int))(D:List Int) :
    (k<1/\z0m k i v n S D=3)∨(1<=k/\4<k/\z0m k i v n S D=3) ∨
    (1<=k/\k<=4 /\
      ((i<1/\z0m k i v n S D=2)∨(1<=i/\1099511627776<i/\z0m k i v n S D=2) ∨
       (1<=i/\i<=1099511627776 /\
        ((z6U k=true/\isV v=false/\z0m k i v n S D=2)∨(z6U k=true/\isV v=true/\n<1/\z0m k i v n S D=2) ∨
         (z6U k=true/\isV v=true/\1<=n/\1125899906842624<n/\z0m k i v n S D=2) ∨
         (((z6U k=true/\isV v=true/\1<=n/\n<=1125899906842624)∨z6U k=false) /\
          ((z8t k v n S.length D.length=true/\z0m k i v n S D=1) ∨
           (z8t k v n S.length D.length=false/\z0d (-1) S=false/\z0m k i v n S D=2) ∨
           (z8t k v n S.length D.length=false/\z0d (-1) S=true/\z0h (-1) D=false/\z0m k i v n S D=2) ∨
           (z8t k v n S.length D.length=false/\z0d (-1) S=true/\z0h (-1) D=true/\z0m k i v n S D=0))))))):=by
  unfold z0m;generalize z8t k v n S.length D.length=f;generalize z0d (-1) S=p;generalize z0h (-1) D=r;generalize z6U k=a;generalize isV v=x
  rcases Int.lt_or_le k 1 with h | h
  · left;exact⟨h,by rw[if_pos (Or.inl h)]⟩
  right
  rcases Int.lt_or_le 4 k with h4 | h4
  · left;exact⟨h,h4,by rw[if_pos (Or.inr h4)]⟩
  right
  rw[if_neg (by omega)]
  refine⟨h,h4,?_⟩
  rcases Int.lt_or_le i 1 with hi | hi
  · left;exact⟨hi,by rw[if_pos (Or.inl hi)]⟩
  right
  rcases Int.lt_or_le 1099511627776 i with hi4 | hi4
  · left;exact⟨hi,hi4,by rw[if_pos (Or.inr hi4)]⟩
  right
  rw[if_neg (by omega)]
  refine⟨hi,hi4,?_⟩
  rcases Int.lt_or_le n 1 with hn | hn
  all_goals rcases Int.lt_or_le 1125899906842624 n with hn4 | hn4
  all_goals first | (exfalso;omega) | skip
  all_goals cases a <;> cases x <;> cases f <;> cases p <;> cases r <;> simp_all
  all_goals omega
theorem z0o(k i v n:Int)(S:List (Int×Int))(D:List Int)(sa da:Option Addr)(cs cd sb so db dO:Nat)(w:World)
    (hls:S.length<=maxLen) (hld:D.length<=maxLen) (hsa:0<S.length->sa=some ⟨sb,so,none⟩) (hda:0<D.length->da=some ⟨db,dO,none⟩) (PS:z5z w sb so S) (PD:z1b w db dO D) :
    Calls prog 34 #[.agg #[.int .i64 k,.int .i64 i,.int .i64 v,.int .i64 n,.slice sa S.length cs,.slice da D.length cd]] w fun e w'=>e=.returned (.int .i64 (z0m k i v n S D))/\Below w.heap.size w w':=by
  have HLS:Hid (S.length<=maxLen):=hls;have HLD:Hid (D.length<=maxLen):=hld;have HSA:Hid (0<S.length->sa=some ⟨sb,so,none⟩):=hsa;have HDA:Hid (0<D.length->da=some ⟨db,dO,none⟩):=hda;clear hls hld hsa hda;have hcs:=z5o k i v n S D;generalize z0m k i v n S D=G at *
  rcases hcs with⟨h1,rfl⟩ | ⟨h1,h2,rfl⟩ | ⟨h1,h2,⟨h3,rfl⟩ | ⟨h3,h4,rfl⟩ | ⟨h3,h4,⟨h5,h6,rfl⟩ | ⟨h5,h6,h7,rfl⟩ | ⟨h5,h6,h7,h8,rfl⟩ | ⟨⟨h5,h6,h7,h8⟩ | h5,⟨h9,rfl⟩ | ⟨h9,h10,rfl⟩ | ⟨h9,h10,h11,rfl⟩ | ⟨h9,h10,h11,rfl⟩⟩⟩⟩
  all_goals go_enter func34,ntmps34
  all_goals go_wp2_with (first
    | (go_at_call 50;refine (q8V _ _ _ _ _ _ _).mono ?_;rintro e w1⟨rfl,hb⟩
       have PS1:=(PS.later (z0v _ _)).later hb;have PD1:=(PD.later (z0v _ _)).later hb;obtain⟨hc,hf⟩:=q5P hb;have hz:w.heap.size<w1.heap.size:=(by have:=hb.size;simp at this;omega)
       have HB1:Hid (Below w.heap.size w w1):=z2S hb
       clear hb PS PD)
    | (go_at_call 51;refine (z4c _ _).mono ?_;rintro e w'⟨rfl,rfl⟩)
    | (go_at_call 52;refine (j6B _ _ _ _ _ _ _ _ _ _ _).mono ?_;rintro e w2⟨rfl,hb⟩
       have PS2:=PS1.later hb;have PD2:=PD1.later hb;obtain⟨hc2,hf2⟩:=q5P hb;have hz2:w.heap.size<w2.heap.size:=Nat.lt_of_lt_of_le hz hb.size;have HB2:Hid (Below w.heap.size w w2):=z2d HB1.out hb
       clear hb PS1 PD1 HB1)
    | (go_at_call 53;refine (q6H S sa cs sb so _ HLS.out HSA.out PS2).mono ?_;rintro e w3⟨rfl,hb⟩
       have PD3:=PD2.later hb;obtain⟨hc3,hf3⟩:=q5P hb;have hz3:w.heap.size<w3.heap.size:=Nat.lt_of_lt_of_le hz2 hb.size;have HB3:Hid (Below w.heap.size w w3):=z2d HB2.out hb
       clear hb PS2 PD2 HB2)
    | (go_at_call 54;refine (q7R D da cd db dO _ HLD.out HDA.out PD3).mono ?_;rintro e w'⟨rfl,rfl⟩))
  all_goals go_ret
  all_goals refine⟨rfl,?_⟩
  all_goals first | exact HB3.out | exact HB2.out | exact HB1.out | exact z0v _ _
theorem info5:(prog.info? 5).map (fun i=>(i.zero,i.size,i.bytes))=some (some (.int .u8 0),1,1):=by kernel_rfl
def be(n:Int):Nat->List Int
 | 0=>[]
 | m+1=>(n / 2 ^ (8 * m)) % 256 :: be n m
theorem z0F(n:Int)(m:Nat):(be n m).length=m:=by
 induction m with
 | zero=>rfl
 | succ m ih=>simp[be,ih]
def Row(w:World)(B:Nat)(v:Value)(xs:List Int):Prop:=w.ownsRow B 5 1 v xs.length (xs.map (Value.int .u8))
def At(w:World)(v v':Value):Prop:=v'.ownBlock=v.ownBlock∨∃ k,v'.ownBlock=some k/\w.heap.size<=k
theorem q1Y{w w1 w2:World}{v v1:Value}(h:w.grownBy w1 v.ownBlock)(ha:At w v v1)(k:w1.grownBy w2 v1.ownBlock):w.grownBy w2 v.ownBlock:=by
 refine⟨k.os.trans h.os,k.tape.trans h.tape,k.output.trans h.output,Nat.le_trans h.size k.size,fun i hi hne=>?_⟩;rw[k.block i (Nat.lt_of_lt_of_le hi h.size) ?_,h.block i hi hne]
 rcases ha with e | ⟨j,e,hj⟩
 ·rw[e];exact hne
 ·rw[e];intro h;cases h;omega
theorem q6g(w:World)(r:Option Nat):w.grownBy w r:=⟨rfl,rfl,rfl,Nat.le_refl _,fun _ _ _=>rfl⟩
theorem At.trans{w w1:World}{v v1 v2:Value}(hs:w.heap.size<=w1.heap.size)(h:At w v v1)(k:At w1 v1 v2):At w v v2:=by
 rcases k with e | ⟨j,e,hj⟩
 ·rcases h with e1 | ⟨j,e1,hj⟩
  ·exact .inl (e.trans e1)
  ·exact .inr ⟨j,e.trans e1,hj⟩
 ·exact .inr ⟨j,e,Nat.le_trans hs hj⟩
theorem q3m{w w2:World}{o:Obj}{r:Option Nat}(k:(w.alloc o).grownBy w2 r):w.grownBy w2 r:=
 ⟨k.os,k.tape,k.output,Nat.le_trans (by simp) k.size,fun i hi hne=>(k.block i (by simp;omega) hne).trans (Below.heap_alloc _ _ _ hi)⟩
theorem z8e(B:Nat)(v:Value)(xs:List Int)(n:Int)(wd:Nat)(w:World)(hown:Row w B v xs)(hwd:wd<=7)(hlen:xs.length+wd<=1000000)(hB:B<=w.heap.size) :
  Calls prog 162 #[v,.int .i64 n,.int .i64 wd] w fun e w'=>∃ v',e=.returned v'/\Row w' B v' (xs ++ be n wd)/\w.grownBy w' v.ownBlock/\At w v v':=by
 obtain⟨i0,hi,hz0,hz1,hz2⟩:=info_parts info5
 go_enter func162,ntmps162
 go_wp2
 go_loopw [0,7] (fun u i wl=>∃ (m:Nat) (ys:List Int),m<=wd/\i=.int .i64 ((m:Int) - 1)/\Hid (ys ++ be n m=xs ++ be n wd)/\Row wl B u ys/\Hid (w.grownBy wl v.ownBlock/\At w v u)) (fun _ i _=>(intOf i+1).toNat)
 case atStart=>exact⟨wd,xs,Nat.le_refl _,rfl,rfl,hown,q6g _ _,.inl rfl⟩
 case round =>
  obtain⟨m,ys,hm,rfl,HE,hown2,HB⟩:=hrel;clear hown
  match m,HE with
  | 0,HE =>
   go_wp2;go_ret;have hE:=HE.out;simp only[be,List.append_nil]at hE;subst hE;exact⟨_,rfl,hown2,HB.out.1,HB.out.2⟩
  | m+1,HE =>
   have hl:ys.length<=1000000:=by
    have h1:=congrArg List.length HE.out;simp only[List.length_append,z0F]at h1;omega
   have hsz:B<=wr.heap.size:=Nat.le_trans hB HB.out.1.size
   go_wp2_with (at_builtin;refine wpList_append_own_at _ rfl _ _ 232 rfl B 5 i0 (.int .u8 0) 1 1 underlying232 hi hz0 hz1 hz2 rfl (by decide) _ _ _ rfl (World.ownsRow.alloc hown2 _) ⟨wr.heap.size,0,none⟩ 1 1 [.int .u8 (n / 2 ^ (8 * m) % 256)] rfl rfl (cell_one_new _ _ _) (by intro u hu;simp at hu;subst hu;rfl) (by unfold maxLen;omega) (by omega) (by simp;omega) ?_;intro v' w1 hown' hgrow _ hat)
   have HO:Hid (Row w1 B v' (ys ++ [n / 2 ^ (8 * m) % 256])):=by simpa [Hid,Row] using hown'
   have HB1:Hid (w.grownBy w1 v.ownBlock/\At w v v'):=by
    refine⟨q1Y HB.out.1 HB.out.2 (q3m hgrow),HB.out.2.trans HB.out.1.size ?_⟩
    rcases hat with h | h
    ·exact .inl h
    ·exact .inr ⟨_,h,by simp⟩
   clear hown' hgrow hown2 hat;go_wp2;go_roundw
   case rel=>exact⟨m,_,by omega,by go_num,by show _=_;rw[← HE.out];simp[be],HO.out,HB1⟩
   case measure=>simp[intOf]
end Cd
section
def z1z(f0 f1 f2 f3 bo wa bu:Int):Bool:=decide ((0<=f0/\f0<=400000)/\(0<=f1/\f1<=400000)/\(0<=f2/\f2<=400000)/\(0<=f3/\f3<=400000)/\(0<=bo/\bo<=400000)/\(0<=wa/\wa<=400000)/\(0<=bu/\bu<=400000)/\f0+f1+f2+f3+bo+wa+bu=400000)
structure Bk where
 f0:Int
 f1:Int
 f2:Int
 f3:Int
 bo:Int
 wa:Int
 bu:Int
def Bk.good(b:Bk):Bool:=z1z b.f0 b.f1 b.f2 b.f3 b.bo b.wa b.bu
def Bk.get(b:Bk):Nat->Int
 | 0=>b.f0
 | 1=>b.f1
 | 2=>b.f2
 | 3=>b.f3
 | 4=>b.bo
 | 5=>b.wa
 | _=>b.bu
def Bk.put(b:Bk)(k:Nat)(x:Int):Bk:=
 match k with
 | 0=>{ b with f0:=x }
 | 1=>{ b with f1:=x }
 | 2=>{ b with f2:=x }
 | 3=>{ b with f3:=x }
 | 4=>{ b with bo:=x }
 | 5=>{ b with wa:=x }
 | _=>{ b with bu:=x }
def mv(b:Bk)(f t:Nat)(n:Int):Bk×Int:=
 if b.good=false∨¬ (0<=n/\n<=1125899906842624) then (b,2) else if b.get f<n then (b,7) else ((b.put f (b.get f - n)).put t (b.get t+n),0)
def z2B(b:Bk)(d n:Int):Bk×Int:=if 0<=d/\d<4 then mv b d.toNat 4 n else (b,4)
def z0W(b:Bk)(n:Int):Bk×Int:=mv b 4 5 n
def z8J(b:Bk)(d n:Int):Bk×Int:=if 0<=d/\d<4 then mv b 5 d.toNat n else (b,4)
def z2U(b:Bk)(x y:Int):Bk×Int:=
 if (mv b 4 6 x).2=0 then if (mv (mv b 4 6 x).1 5 6 y).2=0 then ((mv (mv b 4 6 x).1 5 6 y).1,0) else (b,(mv (mv b 4 6 x).1 5 6 y).2) else (b,(mv b 4 6 x).2)
end
section
structure Vd where
 tok:Int
 sh:Int
 lost:Int
 jail:Bool
 dead:Bool
structure Wt where
 num:Int
 d:Int
 v:Int
 amt:Int
 hei:Int
 due:Int
 h0:Int
 h1:Int
structure St where
 b:Bk
 V:Nat->Vd
 S:Nat->Nat->Int
 W:List Wt
 next:Int
def inA(n:Int):Bool:=decide (0<=n/\n<=1125899906842624)
def isV(v:Int):Bool:=decide (0<=v/\v<6)
def isD(d:Int):Bool:=decide (0<=d/\d<4)
def vOk(x:Vd):Bool:=inA x.tok && inA x.sh && inA x.lost && !(decide (0<x.tok) && decide (x.sh=0)) && (x.jail || !x.dead)
def psh(S:Nat->Nat->Int)(v:Nat):Nat->Int
 | 0=>0
 | j+1=>psh S v j+S j v
def z3A(S:Nat->Nat->Int)(v:Nat):Nat->Bool
 | 0=>true
 | j+1=>z3A S v j && inA (S j v)
def q6I(S:Nat->Nat->Int)(v:Nat)(sh:Int):Bool:=z3A S v 4 && decide (psh S v 4=sh)
def q0W(last next:Int)(w:Wt):Bool:=decide (last<w.num) && decide (w.num<next) && isD w.d && isV w.v && inA w.amt && decide (0<=w.hei) && decide (0<=w.due)
def wOk(next:Int):Int->List Wt->Bool
 | _,[]=>true
 | last,w :: r=>q0W last next w && wOk next w.num r
def z2K:List Wt->Int
 | []=>0
 | w :: r=>w.amt+z2K r
def z8G(V:Nat->Vd):Nat->Int
 | 0=>0
 | k+1=>z8G V k+(V k).tok
def z3K(V:Nat->Vd):Nat->Int
 | 0=>0
 | k+1=>z3K V k+(V k).lost
def j4E(s:St)(v:Nat):Bool:=vOk (s.V v) && q6I s.S v (s.V v).sh
def pvs(s:St):Nat->Bool
 | 0=>true
 | k+1=>pvs s k && j4E s k
def bal(s:St):Bool:=decide (z8G s.V 6=s.b.bo) && decide (z2K s.W=s.b.wa) && decide (z3K s.V 6=s.b.bu)
def z0i(s:St):Bool:=s.b.good && decide (1<=s.next) && decide (s.next<=1125899906842624) && decide (s.W.length<=60) && wOk s.next 0 s.W && pvs s 6 && bal s
def z6x(s:St)(v:Int):Int:=if z0i s=true then if isV v=true then 0 else 4 else 2
def z0U(s:St)(d v:Int):Int:=if z6x s v=0 then if isD d=true then 0 else 4 else z6x s v
def mdN(a b c:Int):Int:=if a<0∨b<0∨c<1 then 0 else if a * b / c<=1125899906842624 then a * b / c else 0
def mdE(a b c:Int):Int:=if a<0∨b<0∨c<1 then 2 else if a * b / c<=1125899906842624 then 0 else 2
def shN(x:Vd)(n:Int):Int:=if x.sh=0 then n else if x.tok=0 then 0 else if mdE n x.sh x.tok=0/\inA (x.sh+mdN n x.sh x.tok)=true then mdN n x.sh x.tok else 0
def shE(x:Vd)(n:Int):Int:=if x.sh=0 then 0 else if x.tok=0 then 8 else if mdE n x.sh x.tok=0/\inA (x.sh+mdN n x.sh x.tok)=true then if mdN n x.sh x.tok=0 then 8 else 0 else 6
def woN(x:Vd)(n:Int):Int:=if mdE n x.tok x.sh=0 then mdN n x.tok x.sh else 0
def woE(x:Vd)(n:Int):Int:=if mdE n x.tok x.sh=0 then if mdN n x.tok x.sh=0 then 8 else 0 else mdE n x.tok x.sh
def z1P(V:Nat->Vd)(v:Nat)(x:Vd):Nat->Vd:=fun i=>if i=v then x else V i
def z6q(S:Nat->Nat->Int)(d v:Nat)(n:Int):Nat->Nat->Int:=fun i j=>if i=d/\j=v then n else S i j
def q3u(s:St)(d v:Nat)(t n:Int):St:={ s with V:=z1P s.V v { s.V v with tok:=(s.V v).tok+t,sh:=(s.V v).sh+n },S:=z6q s.S d v (s.S d v+n) }
theorem z0D{n:Int}:inA n=true↔0<=n/\n<=1125899906842624:=decide_eq_true_iff
theorem z3t{n:Int}:isV n=true↔0<=n/\n<6:=decide_eq_true_iff
theorem z5w{n:Int}:isD n=true↔0<=n/\n<4:=decide_eq_true_iff
end
section
open Go.RowKit
theorem hide{p:Prop}(h:p):Hid p:=h
theorem z7M(d:Int)(w:World):Calls prog 48 #[.int .i64 d] w fun e w'=>e=.returned (.bool (isV d))/\w=w':=by
 unfold isV
 by_cases h0:0<=d
 ·by_cases h1:d<6
  ·rw[decide_eq_true ⟨h0,h1⟩]
   go_enter func48,ntmps48
   go_wp2;go_ret;exact⟨rfl,rfl⟩
  ·rw[decide_eq_false (by omega)]
   go_enter func48,ntmps48
   go_wp2;go_ret;exact⟨rfl,rfl⟩
 ·rw[decide_eq_false (by omega)]
  go_enter func48,ntmps48
  go_wp2;go_ret;exact⟨rfl,rfl⟩
theorem z9D(d:Int)(w:World):Calls prog 146 #[.int .i64 d] w fun e w'=>e=.returned (.bool (isD d))/\w=w':=by
 unfold isD
 by_cases h0:0<=d
 ·by_cases h1:d<4
  ·rw[decide_eq_true ⟨h0,h1⟩]
   go_enter func146,ntmps146
   go_wp2;go_ret;exact⟨rfl,rfl⟩
  ·rw[decide_eq_false (by omega)]
   go_enter func146,ntmps146
   go_wp2;go_ret;exact⟨rfl,rfl⟩
 ·rw[decide_eq_false (by omega)]
  go_enter func146,ntmps146
  go_wp2;go_ret;exact⟨rfl,rfl⟩
theorem z5n(d:Int)(w:World):Calls prog 147 #[.int .i64 d] w fun e w'=>e=.returned (.bool (inA d))/\w=w':=z1u d w
theorem z6K(b o:Nat)(x:Vd)(w:World)(h0:w.cell? ⟨b,o,none⟩=some (.int .i64 x.tok))(h1:w.cell? ⟨b,o+1,none⟩=some (.int .i64 x.sh))(h2:w.cell? ⟨b,o+2,none⟩=some (.int .i64 x.lost))
  (h3:w.cell? ⟨b,o+3,none⟩=some (.bool x.jail)) (h4:w.cell? ⟨b,o+4,none⟩=some (.bool x.dead)) :
  Calls prog 141 #[.pointer (some ⟨b,o,none⟩)] w fun e w'=>e=.returned (.bool (vOk x))/\w=w':=by
 unfold vOk;have i1:=z5n x.tok;have i2:=z5n x.sh;have i3:=z5n x.lost;obtain⟨xt,xs,xl,xj,xd⟩:=x;simp only at *;generalize inA xt=t1 at *;generalize inA xs=t2 at *;generalize inA xl=t3 at *
 go_enter func141,ntmps141
 go_wp2_with (first
  | (go_at_call 147;have _m:=m2;refine (i3 _).mono ?_;rintro e w7⟨rfl,rfl⟩)
  | (go_at_call 147;have _m:=m1;refine (i2 _).mono ?_;rintro e w6⟨rfl,rfl⟩;have m2:True:=trivial)
  | (go_at_call 147;refine (i1 _).mono ?_;rintro e w5⟨rfl,rfl⟩;have m1:True:=trivial))
 all_goals (go_ret;refine⟨?_,rfl⟩;congr 1;congr 1;simp_all)
end
end Go.Proofs.YtmopekkhmhhcaaaGreat
