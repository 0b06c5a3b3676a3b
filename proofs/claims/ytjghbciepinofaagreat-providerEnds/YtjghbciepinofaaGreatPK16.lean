/- Parts of the proof. -/
import Derived.Test.YtjghbciepinofaaGreatPL
import Derived.Test.YtjghbciepinofaaGreatPK41
import Derived.Test.YtjghbciepinofaaGreatPK45
set_option maxRecDepth 100000
set_option maxHeartbeats 16000000
namespace Go.Proofs.YtjghbciepinofaaGreat
open Go.Proofs.Tryz
open Value renaming int->J,slice->J1,pointer->J2,bool->J3,agg->J4
open IntKind renaming i64->I
open Obj renaming cells->J5
namespace Cd
open Go.RowKit
theorem info5:(prog.info? 5).map (fun i=>(i.zero,i.size,i.bytes))=some (some (.int .u8 0),1,1):=by kernel_rfl
def be(n:Int):Nat->List Int
 | 0=>[]
 | m+1=>(n / 2 ^ (8 * m)) % 256 :: be n m
theorem z0A(n:Int)(m:Nat):(be n m).length=m:=by
 induction m with
 | zero=>rfl
 | succ m ih=>simp[be,ih]
def Row(w:World)(B:Nat)(v:Value)(a:List Int):Prop:=w.ownsRow B 5 1 v a.length (a.map (Value.int .u8))
def At(w:World)(v a:Value):Prop:=a.ownBlock=v.ownBlock∨∃ k,a.ownBlock=some k/\w.heap.size<=k
theorem z9x{w w1 b:World}{v v1:Value}(h:w.grownBy w1 v.ownBlock)(d:At w v v1)(k:w1.grownBy b v1.ownBlock):w.grownBy b v.ownBlock:=by
 refine⟨k.os.trans h.os,k.tape.trans h.tape,k.output.trans h.output,Nat.le_trans h.size k.size,fun i c a=>?_⟩;rw[k.block i (Nat.lt_of_lt_of_le c h.size) ?_,h.block i c a]
 rcases d with e | ⟨j,e,f⟩
 ·rw[e];exact a
 ·rw[e];intro h;cases h;omega
theorem q0K(w:World)(r:Option Nat):w.grownBy w r:=⟨rfl,rfl,rfl,Nat.le_refl _,fun _ _ _=>rfl⟩
theorem At.trans{w w1:World}{v v1 v2:Value}(c:w.heap.size<=w1.heap.size)(h:At w v v1)(k:At w1 v1 v2):At w v v2:=by
 rcases k with e | ⟨j,e,a⟩
 ·rcases h with b | ⟨j,b,a⟩
  ·exact .inl (e.trans b)
  ·exact .inr ⟨j,e.trans b,a⟩
 ·exact .inr ⟨j,e,Nat.le_trans c a⟩
theorem z9c{w b:World}{o:Obj}{r:Option Nat}(k:(w.alloc o).grownBy b r):w.grownBy b r:=
 ⟨k.os,k.tape,k.output,Nat.le_trans (by simp) k.size,fun i c a=>(k.block i (by simp;omega) a).trans (Below.heap_alloc _ _ _ c)⟩
theorem z8F(B:Nat)(v:Value)(k:List Int)(n:Int)(d:Nat)(w:World)(hown:Row w B v k)(y:d<=7)(t:k.length+d<=1000000)(z:B<=w.heap.size) :
  Calls prog 22 #[v,J I n,J I d] w fun e w'=>∃ g,e=.returned g/\Row w' B g (k ++ be n d)/\w.grownBy w' v.ownBlock/\At w v g:=by
 obtain⟨A,C,p,q,r⟩:=info_parts info5
 go_enter func22,ntmps22
 go_wp2
 go_loopw [0,7] (fun u i wl=>∃ (m:Nat) (l:List Int),m<=d/\i=J I ((m:Int) - 1)/\Hid (l ++ be n m=k ++ be n d)/\Row wl B u l/\Hid (w.grownBy wl v.ownBlock/\At w v u)) (fun _ i _=>(intOf i+1).toNat)
 case atStart=>exact⟨d,k,Nat.le_refl _,rfl,rfl,hown,q0K _ _,.inl rfl⟩
 case round =>
  obtain⟨m,l,F,rfl,j,a,f⟩:=hrel;clear hown
  match m,j with
  | 0,j =>
   go_wp2;go_ret;have x:=j.out;simp only[be,List.append_nil]at x;subst x;exact⟨_,rfl,a,f.out.1,f.out.2⟩
  | m+1,j =>
   have hl:l.length<=1000000:=by
    have h1:=congrArg List.length j.out;simp only[List.length_append,z0A]at h1;omega
   have D:B<=wr.heap.size:=Nat.le_trans z f.out.1.size
   go_wp2_with (at_builtin;refine wpList_append_own_at _ rfl _ _ 71 rfl B 5 A (.int .u8 0) 1 1 underlying71 C p q r rfl (by decide) _ _ _ rfl (World.ownsRow.alloc a _) ⟨wr.heap.size,0,none⟩ 1 1 [.int .u8 (n / 2 ^ (8 * m) % 256)] rfl rfl (cell_one_new _ _ _) (by intro u hu;simp at hu;subst hu;rfl) (by unfold maxLen;omega) (by omega) (by simp;omega) ?_;intro g w1 b c _ o)
   have E:Hid (Row w1 B g (l ++ [n / 2 ^ (8 * m) % 256])):=by simpa [Hid,Row] using b
   have s:Hid (w.grownBy w1 v.ownBlock/\At w v g):=by
    refine⟨z9x f.out.1 f.out.2 (z9c c),f.out.2.trans f.out.1.size ?_⟩
    rcases o with h | h
    ·exact .inl h
    ·exact .inr ⟨_,h,by simp⟩
   clear b c a o;go_wp2;go_roundw
   case rel=>exact⟨m,_,by omega,by go_num,by show _=_;rw[<- j.out];simp[be],E.out,s⟩
   case measure=>simp[intOf]
end Cd
section
def z0v(f0 f1 f2 f3 bo wa bu:Int):Bool:=decide ((0<=f0/\f0<=400000)/\(0<=f1/\f1<=400000)/\(0<=f2/\f2<=400000)/\(0<=f3/\f3<=400000)/\(0<=bo/\bo<=400000)/\(0<=wa/\wa<=400000)/\(0<=bu/\bu<=400000)/\f0+f1+f2+f3+bo+wa+bu=400000)
structure Bk where
 f0:Int
 f1:Int
 f2:Int
 f3:Int
 bo:Int
 wa:Int
 bu:Int
def Bk.good(b:Bk):Bool:=z0v b.f0 b.f1 b.f2 b.f3 b.bo b.wa b.bu
def Bk.get(b:Bk):Nat->Int
 | 0=>b.f0
 | 1=>b.f1
 | 2=>b.f2
 | 3=>b.f3
 | 4=>b.bo
 | 5=>b.wa
 | _=>b.bu
def Bk.put(b:Bk)(k:Nat)(x:Int):Bk:=
 match k with
 | 0=>{ b with f0:=x }
 | 1=>{ b with f1:=x }
 | 2=>{ b with f2:=x }
 | 3=>{ b with f3:=x }
 | 4=>{ b with bo:=x }
 | 5=>{ b with wa:=x }
 | _=>{ b with bu:=x }
def mv(b:Bk)(f t:Nat)(n:Int):Bk×Int:=
 if b.good=false∨¬ (0<=n/\n<=1125899906842624) then (b,2) else if b.get f<n then (b,7) else ((b.put f (b.get f - n)).put t (b.get t+n),0)
def z2P(b:Bk)(d n:Int):Bk×Int:=if 0<=d/\d<4 then mv b d.toNat 4 n else (b,4)
def z3R(b:Bk)(d n:Int):Bk×Int:=if 0<=d/\d<4 then mv b 5 d.toNat n else (b,4)
def z0Y(b:Bk)(x y:Int):Bk×Int:=
 if (mv b 4 6 x).2=0 then if (mv (mv b 4 6 x).1 5 6 y).2=0 then ((mv (mv b 4 6 x).1 5 6 y).1,0) else (b,(mv (mv b 4 6 x).1 5 6 y).2) else (b,(mv b 4 6 x).2)
end
section
structure Vd where
 tok:Int
 sh:Int
 lost:Int
 jail:Bool
 dead:Bool
structure Wt where
 num:Int
 d:Int
 v:Int
 amt:Int
 hei:Int
 due:Int
 h0:Int
 h1:Int
structure St where
 b:Bk
 V:Nat->Vd
 S:Nat->Nat->Int
 W:List Wt
 next:Int
def inA(n:Int):Bool:=decide (0<=n/\n<=1125899906842624)
def isV(v:Int):Bool:=decide (0<=v/\v<6)
def isD(d:Int):Bool:=decide (0<=d/\d<4)
def vOk(x:Vd):Bool:=inA x.tok && inA x.sh && inA x.lost && !(decide (0<x.tok) && decide (x.sh=0)) && (x.jail || !x.dead)
def psh(S:Nat->Nat->Int)(v:Nat):Nat->Int
 | 0=>0
 | j+1=>psh S v j+S j v
def z2F(S:Nat->Nat->Int)(v:Nat):Nat->Bool
 | 0=>true
 | j+1=>z2F S v j && inA (S j v)
def q0d(S:Nat->Nat->Int)(v:Nat)(sh:Int):Bool:=z2F S v 4 && decide (psh S v 4=sh)
def q1W(last next:Int)(w:Wt):Bool:=decide (last<w.num) && decide (w.num<next) && isD w.d && isV w.v && inA w.amt && decide (0<=w.hei) && decide (0<=w.due)
def wOk(next:Int):Int->List Wt->Bool
 | _,[]=>true
 | last,w :: r=>q1W last next w && wOk next w.num r
def z1N:List Wt->Int
 | []=>0
 | w :: r=>w.amt+z1N r
def z5c(V:Nat->Vd):Nat->Int
 | 0=>0
 | k+1=>z5c V k+(V k).tok
def z2l(V:Nat->Vd):Nat->Int
 | 0=>0
 | k+1=>z2l V k+(V k).lost
def z6t(s:St)(v:Nat):Bool:=vOk (s.V v) && q0d s.S v (s.V v).sh
def pvs(s:St):Nat->Bool
 | 0=>true
 | k+1=>pvs s k && z6t s k
def bal(s:St):Bool:=decide (z5c s.V 6=s.b.bo) && decide (z1N s.W=s.b.wa) && decide (z2l s.V 6=s.b.bu)
def z0j(s:St):Bool:=s.b.good && decide (1<=s.next) && decide (s.next<=1125899906842624) && decide (s.W.length<=60) && wOk s.next 0 s.W && pvs s 6 && bal s
def z4W(s:St)(v:Int):Int:=if z0j s=true then if isV v=true then 0 else 4 else 2
def z1i(s:St)(d v:Int):Int:=if z4W s v=0 then if isD d=true then 0 else 4 else z4W s v
def mdN(a b c:Int):Int:=if a<0∨b<0∨c<1 then 0 else if a * b / c<=1125899906842624 then a * b / c else 0
def mdE(a b c:Int):Int:=if a<0∨b<0∨c<1 then 2 else if a * b / c<=1125899906842624 then 0 else 2
def shN(x:Vd)(n:Int):Int:=if x.sh=0 then n else if x.tok=0 then 0 else if mdE n x.sh x.tok=0/\inA (x.sh+mdN n x.sh x.tok)=true then mdN n x.sh x.tok else 0
def shE(x:Vd)(n:Int):Int:=if x.sh=0 then 0 else if x.tok=0 then 8 else if mdE n x.sh x.tok=0/\inA (x.sh+mdN n x.sh x.tok)=true then if mdN n x.sh x.tok=0 then 8 else 0 else 6
def z2a(V:Nat->Vd)(v:Nat)(x:Vd):Nat->Vd:=fun i=>if i=v then x else V i
def q7i(S:Nat->Nat->Int)(d v:Nat)(n:Int):Nat->Nat->Int:=fun i j=>if i=d/\j=v then n else S i j
def q6q(s:St)(d v:Nat)(t n:Int):St:={ s with V:=z2a s.V v { s.V v with tok:=(s.V v).tok+t,sh:=(s.V v).sh+n },S:=q7i s.S d v (s.S d v+n) }
theorem z1n{n:Int}:inA n=true↔0<=n/\n<=1125899906842624:=decide_eq_true_iff
theorem z3g{n:Int}:isV n=true↔0<=n/\n<6:=decide_eq_true_iff
theorem z5v{n:Int}:isD n=true↔0<=n/\n<4:=decide_eq_true_iff
end
section
open Go.RowKit
theorem J6{p:Prop}(h:p):Hid p:=h
theorem z5F(d:Int)(w:World):Calls prog 90 #[J I d] w fun e w'=>e=.returned (J3 (isV d))/\w=w':=by
 unfold isV
 by_cases h0:0<=d
 ·by_cases h1:d<6
  ·rw[decide_eq_true ⟨h0,h1⟩]
   go_enter func90,ntmps90
   go_wp2;go_ret;exact⟨rfl,rfl⟩
  ·rw[decide_eq_false (by omega)]
   go_enter func90,ntmps90
   go_wp2;go_ret;exact⟨rfl,rfl⟩
 ·rw[decide_eq_false (by omega)]
  go_enter func90,ntmps90
  go_wp2;go_ret;exact⟨rfl,rfl⟩
theorem z6u(d:Int)(w:World):Calls prog 120 #[J I d] w fun e w'=>e=.returned (J3 (isD d))/\w=w':=by
 unfold isD
 by_cases h0:0<=d
 ·by_cases h1:d<4
  ·rw[decide_eq_true ⟨h0,h1⟩]
   go_enter func120,ntmps120
   go_wp2;go_ret;exact⟨rfl,rfl⟩
  ·rw[decide_eq_false (by omega)]
   go_enter func120,ntmps120
   go_wp2;go_ret;exact⟨rfl,rfl⟩
 ·rw[decide_eq_false (by omega)]
  go_enter func120,ntmps120
  go_wp2;go_ret;exact⟨rfl,rfl⟩
theorem z3T(d:Int)(w:World):Calls prog 121 #[J I d] w fun e w'=>e=.returned (J3 (inA d))/\w=w':=z1q d w
theorem z4G(b o:Nat)(x:Vd)(w:World)(h0:w.cell? ⟨b,o,none⟩=some (J I x.tok))(h1:w.cell? ⟨b,o+1,none⟩=some (J I x.sh))(h2:w.cell? ⟨b,o+2,none⟩=some (J I x.lost))
  (h3:w.cell? ⟨b,o+3,none⟩=some (J3 x.jail)) (k:w.cell? ⟨b,o+4,none⟩=some (J3 x.dead)) :
  Calls prog 76 #[J2 (some ⟨b,o,none⟩)] w fun e w'=>e=.returned (J3 (vOk x))/\w=w':=by
 unfold vOk;have a:=z3T x.tok;have c:=z3T x.sh;have d:=z3T x.lost;obtain⟨f,g,h,l,m⟩:=x;simp only at *;generalize inA f=t1 at *;generalize inA g=t2 at *;generalize inA h=t3 at *
 go_enter func76,ntmps76
 go_wp2_with (first
  | (go_at_call 121;have _m:=i;refine (d _).mono ?_;rintro e n⟨rfl,rfl⟩)
  | (go_at_call 121;have _m:=j;refine (c _).mono ?_;rintro e w6⟨rfl,rfl⟩;have i:True:=trivial)
  | (go_at_call 121;refine (a _).mono ?_;rintro e w5⟨rfl,rfl⟩;have j:True:=trivial))
 all_goals (go_ret;refine⟨?_,rfl⟩;congr 1;congr 1;simp_all)
structure z1R(w:World)(ao:Option Addr)(b o:Nat)(W:List Wt):Prop where
  adr:0<W.length->ao=some ⟨b,o,none⟩
  len:W.length * 64<=140737488351232
  cell:∀ i x,W[i]?=some x->w.cell? ⟨b,o+i * 8,none⟩=some (J I x.num)/\w.cell? ⟨b,o+i * 8+1,none⟩=some (J I x.d)/\w.cell? ⟨b,o+i * 8+2,none⟩=some (J I x.v)/\w.cell? ⟨b,o+i * 8+3,none⟩=some (J I x.amt) /\
    w.cell? ⟨b,o+i * 8+4,none⟩=some (J I x.hei)/\w.cell? ⟨b,o+i * 8+5,none⟩=some (J I x.due)/\w.cell? ⟨b,o+i * 8+6,none⟩=some (J I x.h0)/\w.cell? ⟨b,o+i * 8+7,none⟩=some (J I x.h1)
theorem z1R.later{w w':World}{ao:Option Addr}{b o B:Nat}{W:List Wt}(h:z1R w ao b o W)(d:Below B w w')(e:0<W.length->b<B):z1R w' ao b o W:=by
  refine⟨h.adr,h.len,fun i x c=>?_⟩;have a:b<B:=e (by have:=(List.getElem?_eq_some_iff.1 c).1;omega)
  have k:∀ o,w'.cell? ⟨b,o,none⟩=w.cell? ⟨b,o,none⟩:=fun o=>d.cell a;obtain⟨h0,h1,h2,h3,f,g,j,l⟩:=h.cell i x c;exact⟨(k _).trans h0,(k _).trans h1,(k _).trans h2,(k _).trans h3,(k _).trans f,(k _).trans g,(k _).trans j,(k _).trans l⟩
theorem z1R.lt{w:World}{ao:Option Addr}{b o:Nat}{W:List Wt}(h:z1R w ao b o W)(h0:0<W.length):b<w.heap.size:=by
  obtain⟨x,a⟩:∃ x,W[0]?=some x:=⟨W[0],List.getElem?_eq_getElem h0⟩;exact World.block_lt_of_cell? w _ (h.cell 0 x a).1
theorem z1R.over{w w':World}{ao:Option Addr}{b o:Nat}{W:List Wt}(h:z1R w ao b o W)(a:Bl w w'):z1R w' ao b o W:=h.later a h.lt
theorem drop_at{α:Type}{l:List α}{k:Nat}(h:k<l.length):∃ x,l[k]?=some x/\l.drop k=x :: l.drop (k+1):=⟨l[k],List.getElem?_eq_getElem h,List.drop_eq_getElem_cons h⟩
def wtC(x:Wt):Array Value:=#[J I x.num,J I x.d,J I x.v,J I x.amt,J I x.hei,J I x.due,J I x.h0,J I x.h1]
theorem q0P(d:Int)(w:World):Calls prog 104 #[J I d] w fun e w'=>e=.returned (J3 (decide (0<d) && inA d))/\w=w':=by
  have a:=z3T d;generalize inA d=t at *
  go_enter func104,ntmps104
  go_wp2_with (go_at_call 121;refine (a _).mono ?_;rintro e w5⟨rfl,rfl⟩)
  all_goals (go_ret;refine⟨?_,rfl⟩;congr 1;congr 1;first | (simp_all;done) | (simp_all;omega) | (simp_all;intros;omega))
theorem z6W(W:List Wt)(ao:Option Addr)(b o c:Nat)(next:Int)(w:World)(h:z1R w ao b o W) :
    Calls prog 75 #[J1 ao W.length c,J I next] w fun e w'=>e=.returned (J3 (wOk next 0 W))/\Bl w w':=by
  have m:=h.len;have q:Hid (z1R w ao b o W):=h;have a:=h.adr;clear h
  go_enter func75,ntmps75
  go_wp2
  go_loopw [5,10] (fun r i wl=>∃ (k:Nat) (last:Int),k<=W.length/\i=J I (k:Int)/\r=J I last/\Hid (wOk next 0 W=wOk next last (W.drop k)/\Bl w wl)) (fun _ i _=>W.length - (intOf i).toNat)
  case atStart=>exact⟨0,0,Nat.zero_le _,rfl,rfl,rfl,Below.refl _ _⟩
  case round =>
    obtain⟨k,last,z,rfl,rfl,f⟩:=hrel
    by_cases l:k<W.length
    · obtain⟨x,s,hd⟩:=drop_at l
      have j:Hid (Bl w wr):=f.out.2;obtain⟨c0,c1,c2,c3,A,B,C,D⟩:=(q.out.over j.out).cell k x s;have n:Hid (wOk next 0 W=(q1W last next x && wOk next x.num (W.drop (k+1)))):=by have:=f.out.1;rw[hd]at this;exact this
      clear f hd;obtain rfl:=a (by omega)
      clear a;have g:w.heap.size<=wr.heap.size:=j.out.size;have t:=z6u x.d;have u:=z5F x.v;have y:=z3T x.amt;have p:Hid (∀ last,q1W last next x=(decide (last<x.num) && decide (x.num<next) && isD x.d && isV x.v && inA x.amt && decide (0<=x.hei) && decide (0<=x.due))):=fun _=>rfl
      generalize isD x.d=t1 at *;generalize isV x.v=t2 at *;generalize inA x.amt=t3 at *
      go_wp2_with (first
        | (go_at_call 120;refine (t _).mono ?_;rintro e w5⟨rfl,rfl⟩)
        | (go_at_call 90;refine (u _).mono ?_;rintro e w6⟨rfl,rfl⟩)
        | (go_at_call 121;refine (y _).mono ?_;rintro e E⟨rfl,rfl⟩))
      all_goals first
        | (go_ret;refine⟨?_,j.out.alloc g _⟩;rw[n.out,p.out];congr 1;congr 1;first | (simp_all;done) | (simp_all;omega) | (simp_all;intros;omega))
        | (go_roundw
           case rel=>exact⟨k+1,x.num,by omega,by go_num,rfl,(by rw[n.out,p.out];simp_all),j.out.alloc g _⟩
           case measure=>simp[intOf];omega)
    · go_wp2
      go_ret;refine⟨?_,f.out.2⟩;rw[f.out.1,List.drop_eq_nil_of_le (by omega)]
      rfl
end
end Go.Proofs.YtjghbciepinofaaGreat
