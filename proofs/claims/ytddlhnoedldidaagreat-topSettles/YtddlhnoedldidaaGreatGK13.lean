/- Parts of the proof. -/
import Derived.Test.YtddlhnoedldidaaGreatGL
import Derived.Test.YtddlhnoedldidaaGreatGK10
import Derived.Test.YtddlhnoedldidaaGreatGK14
import Derived.Test.YtddlhnoedldidaaGreatGK24
import Derived.Test.YtddlhnoedldidaaGreatGK27
import Derived.ChangeAlike
set_option maxRecDepth 100000
set_option maxHeartbeats 16000000
namespace Go.Proofs.YtddlhnoedldidaaGreat
open Go.Proofs.Tryz
open Value renaming int->J,slice->J1,pointer->J2,bool->J3,agg->J4
open IntKind renaming i64->I
open Obj renaming cells->J5
namespace Cd
open Go.RowKit
def bs(s:ByteArray):List Int:=s.data.toList.map fun u=>(u.toNat:Int)
theorem z2M(s:ByteArray):(bs s).length=s.size:=by simp[bs]
theorem q0l(s:ByteArray):∀ c∈bs s,0<=c/\c<256:=by
 intro c hc;obtain⟨u,_,rfl⟩:=List.mem_map.1 hc;have:=u.toNat_lt;omega
theorem j9Z(s:ByteArray)(j:Nat)(h:j<s.size):(bs s).getD j 0=(s[j].toNat:Int):=by
 have h':j<s.data.size:=h;rw[bs,List.getD,List.getElem?_map,Array.getElem?_toList,Array.getElem?_eq_getElem h'];rfl
theorem z9s(s:ByteArray)(m:Nat):bs (s.extract m s.size)=(bs s).drop m:=by
 unfold bs;rw[ByteArray.data_extract,Array.toList_extract,List.extract_eq_take_drop,<- List.map_drop]
 congr 1
 rw[List.take_of_length_le]
 simp
def TAt(w:World)(b:Nat)(r:ByteArray)(sh:Bool):Prop:=w.heap[b]?=some (J5 #[.string r,J3 sh] 106)
theorem TAt.cells{w:World}{b:Nat}{r:ByteArray}{sh:Bool}(h:TAt w b r sh):w.cell? ⟨b,0,none⟩=some (.string r)/\w.cell? ⟨b,1,none⟩=some (J3 sh)/\w.frozen? ⟨b,0,none⟩=false/\w.frozen? ⟨b,1,none⟩=false:=by
 unfold TAt at h
 simp[World.cell?,World.frozen?,h]
theorem TAt.set0{w:World}{b:Nat}{r:ByteArray}{sh:Bool}(h:TAt w b r sh)(a:ByteArray):TAt (w.setCell ⟨b,0,none⟩ (.string a)) b a sh:=by
 unfold TAt at *
 simp[World.setCell,Array.getElem?_modify,h]
theorem TAt.set1{w:World}{b:Nat}{r:ByteArray}{sh:Bool}(h:TAt w b r sh)(a:Bool):TAt (w.setCell ⟨b,1,none⟩ (J3 a)) b r a:=by
 unfold TAt at *
 simp[World.setCell,Array.getElem?_modify,h]
theorem z4f(w:World)(b o:Nat)(v:Value):w.grownBy (w.setCell ⟨b,o,none⟩ v) (some b):=
 ⟨rfl,rfl,rfl,by simp[World.setCell],fun k _ a=>Below.heap_setCell _ _ _ _ (fun e=>a (by rw[e]))⟩
theorem z5b{w w1 b:World}{r:Option Nat}(h:w.grownBy w1 r)(k:w1.grownBy b r):w.grownBy b r:=
 ⟨k.os.trans h.os,k.tape.trans h.tape,k.output.trans h.output,Nat.le_trans h.size k.size,fun i c a=>(k.block i (Nat.lt_of_lt_of_le c h.size) a).trans (h.block i c a)⟩
def tk(m:Nat)(st:List Int×Bool):Int×(List Int×Bool):=if st.1.length<m then (0,([],true)) else (z4D 0 (st.1.take m),(st.1.drop m,st.2))
def TS(w:World)(b:Nat)(st:List Int×Bool):Prop:=∃ r,TAt w b r st.2/\bs r=st.1/\r.size<=maxLen
theorem j7C{j:Nat}(h:j<=6):(2:Int) ^ (8 * j)<=281474976710656:=by
 match j,h with
 | 0,_=>decide
 | 1,_=>decide
 | 2,_=>decide
 | 3,_=>decide
 | 4,_=>decide
 | 5,_=>decide
 | 6,_=>decide
theorem size_ext(r:ByteArray)(j:Nat):(r.extract j r.size).size<=r.size:=by
 have h:=z9s r j;have h2:=congrArg List.length h;rw[z2M,List.length_drop,z2M]at h2;omega
theorem z9k:∀ (l:List Int) (a:Int) (B:Nat),(∀ c∈l,0<=c/\c<256)->0<=a->a<2 ^ (8 * B)->0<=z4D a l/\z4D a l<2 ^ (8 * (B+l.length)):=by
 intro l
 induction l with
 | nil=>intro a B _ h0 h1;exact⟨h0,by simpa [z4D] using h1⟩
 | cons c t ih =>
  intro a B hc h0 h1;have b:=hc c (List.mem_cons_self ..);have h2:a * 256+c<2 ^ (8 * (B+1)):=by rw[z7H];omega
  have:=ih (a * 256+c) (B+1) (fun x d=>hc x (List.mem_cons_of_mem _ d)) (by omega) h2
  rw[show B+1+t.length=B+(c :: t).length by simp;omega]at this
  exact this
theorem j0I(l:List Int)(j:Nat)(h:j<l.length):z4D 0 (l.take (j+1))=z4D 0 (l.take j) * 256+l.getD j 0:=by
 rw[List.take_succ_eq_append_getElem h,z4D,List.foldl_append]
 simp[z4D,List.getD,h]
theorem j6E(q c:Int)(f:0<=q)(g:q<281474976710656)(hc:0<=c)(h:c<256):bits BinOp.or IntKind.i64 (q * 256) (wrap64 c)=q * 256+c:=by
 have j:wrap64 c=c:=by unfold wrap64;omega
 rw[j];obtain⟨a,rfl⟩:=Int.eq_ofNat_of_zero_le f;obtain⟨b,rfl⟩:=Int.eq_ofNat_of_zero_le hc
 have d:a * 256 ||| b=a * 256+b:=by
  have:=Nat.two_pow_add_eq_or_of_lt (i:=8) (b:=b) (by omega) a
  rw[Nat.mul_comm a 256];exact this.symm
 have h1:(BitVec.ofInt 64 ((a * 256:Nat):Int)).toNat=a * 256:=by
  rw[BitVec.ofInt_natCast,BitVec.toNat_ofNat];exact Nat.mod_eq_of_lt (by omega)
 have h2:(BitVec.ofInt 64 (b:Int)).toNat=b:=by
  rw[BitVec.ofInt_natCast,BitVec.toNat_ofNat];exact Nat.mod_eq_of_lt (by omega)
 have e:(a:Int) * 256=((a * 256:Nat):Int):=by omega
 rw[e]
 show IntKind.i64.wrap ((BitVec.ofInt 64 ((a * 256:Nat):Int) ||| BitVec.ofInt 64 (b:Int)).toNat:Int)=_
 rw[BitVec.toNat_or,h1,h2,d]
 simp[IntKind.wrap,IntKind.bits,IntKind.signed]
 omega
theorem q7b(b:Nat)(st:List Int×Bool)(m:Nat)(w:World)(d:TS w b st)(C:m<=7) :
  Calls prog 46 #[J2 (some ⟨b,0,none⟩),J I m] w fun e w'=>e=.returned (J I (tk m st).1)/\TS w' b (tk m st).2/\w.grownBy w' (some b):=by
 obtain⟨r,d,x,y⟩:=d;obtain⟨l,sh⟩:=st;dsimp only at d x;subst x;have o:=y;unfold maxLen at y;obtain⟨c0,c1,f0,f1⟩:=d.cells
 by_cases f:r.size<m
 ·have e:tk m (bs r,sh)=(0,([],true)):=by rw[tk,if_pos (by rw[z2M];exact f)]
  rw[e];have p:Hid _:=(d.set1 true).set0 ⟨#[]⟩;clear d
  go_enter func46,ntmps46
  go_wp2;go_ret;exact⟨rfl,⟨⟨#[]⟩,p.out,rfl,by decide⟩,z5b (z4f _ _ _ _) (z4f _ _ _ _)⟩
 ·have e:tk m (bs r,sh)=(z4D 0 ((bs r).take m),((bs r).drop m,sh)):=by rw[tk,if_neg (by rw[z2M];exact f)]
  rw[e];have p:Hid _:=d.set0 (r.extract m r.size);have z:Hid _:=z9s r m;clear d
  go_enter func46,ntmps46
  go_wp2
  go_loop [5,21] (fun n i=>∃ j:Nat,j<=m/\i=J I j/\n=J I (z4D 0 ((bs r).take j))) (fun _ i=>m - (intOf i).toNat)
  case atStart=>exact⟨0,Nat.zero_le _,rfl,by simp[z4D]⟩
  case round =>
   obtain⟨j,D,rfl,rfl⟩:=hrel
   by_cases h:j<m
   ·have g:j<r.size:=by omega
    have a:=z9k ((bs r).take j) 0 0 (fun c hc=>q0l r c (List.mem_of_mem_take hc)) (by omega) (by omega)
    have k:((bs r).take j).length=j:=by rw[List.length_take,z2M];omega
    rw[k,Nat.zero_add]at a;have s:0<=z4D 0 ((bs r).take j):=a.1
    have t:z4D 0 ((bs r).take j)<281474976710656:=by
     have hp:(2:Int) ^ (8 * j)<=281474976710656:=j7C (by omega)
     have:=a.2;omega
    have u:=r[j].toNat_lt
    have A:Hid (z4D 0 ((bs r).take (j+1))=z4D 0 ((bs r).take j) * 256+(r[j].toNat:Int)):=by
     show _=_
     rw[j0I _ _ (by rw[z2M];exact g),j9Z r j g]
    clear a k;generalize z4D 0 ((bs r).take j)=q at *;have B:Hid _:=j6E q (r[j].toNat:Int) s t (by omega) (by omega)
    clear u;go_wp2
    go_round
    case rel=>exact⟨j+1,by omega,by go_num,by rw[B.out,A.out]⟩
    case measure=>simp[intOf];omega
   ·have v:j=m:=by omega
    subst v;go_wp2;go_ret;exact⟨rfl,⟨_,p.out,z.out,Nat.le_trans (size_ext r j) o⟩,z4f _ _ _ _⟩
end Cd
section
open Go.RowKit
theorem z9B(a b c:Int)(w:World)(d:a<=9223372036854775807)(b1:b<=9223372036854775807)(c1:c<=9223372036854775807) :
  Calls prog 143 #[J I a,J I b,J I c] w fun e w'=>e=.returned (.tuple #[J I (mdN a b c),J I (mdE a b c)])/\Bl w w':=Ra.j4W a b c d b1 c1 w
theorem z4K(a b c:Int):0<=mdN a b c/\mdN a b c<=1125899906842624:=by
 unfold mdN
 split
 ·omega
 ·rename_i h;have h0:0<=a * b:=Int.mul_nonneg (by omega) (by omega)
  have h1:0<=a * b / c:=Int.ediv_nonneg h0 (by omega)
  split <;> omega
theorem y0s(x:Vd)(n:Int):shN x n=if x.sh=0 then n else if x.tok=0 then 0 else if mdE n x.sh x.tok=0/\inA (x.sh+mdN n x.sh x.tok)=true then mdN n x.sh x.tok else 0:=rfl
theorem y1i(x:Vd)(n:Int):shE x n=if x.sh=0 then 0 else if x.tok=0 then 8 else if mdE n x.sh x.tok=0/\inA (x.sh+mdN n x.sh x.tok)=true then if mdN n x.sh x.tok=0 then 8 else 0 else 6:=rfl
theorem j8P(x:Vd)(n:Int):woN x n=if mdE n x.tok x.sh=0 then mdN n x.tok x.sh else 0:=rfl
theorem j9q(x:Vd)(n:Int):woE x n=if mdE n x.tok x.sh=0 then if mdN n x.tok x.sh=0 then 8 else 0 else mdE n x.tok x.sh:=rfl
theorem z9T(b o:Nat)(x:Vd)(n:Int)(w:World)(A:n<=1125899906842624)(i:vOk x=true)(h0:w.cell? ⟨b,o,none⟩=some (J I x.tok))(h1:w.cell? ⟨b,o+1,none⟩=some (J I x.sh)) :
  Calls prog 100 #[J2 (some ⟨b,o,none⟩),J I n] w fun e w'=>e=.returned (.tuple #[J I (shN x n),J I (shE x n)])/\Bl w w':=by
 obtain⟨k1,s,u⟩:=z2B i;rw[z0I]at k1 s u;have j:=fun w=>z9B n x.sh x.tok w (by omega) (by omega) (by omega)
 have k:=z5I (x.sh+mdN n x.sh x.tok);have g:=J6 (y0s x n);have h:=J6 (y1i x n);have f:b<w.heap.size:=World.block_lt_of_cell? w _ h0;clear i;obtain⟨d,a,l,p,q⟩:=x;simp only at *;have hb:=z4K n a d;generalize shN ⟨d,a,l,p,q⟩ n=rN at *;generalize shE ⟨d,a,l,p,q⟩ n=rE at *;generalize mdN n a d=m at *;generalize mdE n a d=er at *;generalize inA (a+m)=t at *
 go_enter func100,ntmps100
 go_upto_region 5 with fail
 all_goals first
  | (go_ret2;refine⟨?_,Below.refl _ _⟩;have v:=g.out;have y:=h.out;simp_all;done)
  | skip
 go_region_held3 (fun r=>r.cell? ⟨b,o,none⟩=some (J I d)/\r.cell? ⟨b,o+1,none⟩=some (J I a)) (first | go_keep | (refine⟨?_,?_⟩ <;> (rw[c.cell f];simp[*])))
  (first | (go_at_call 143;refine (j _).mono ?_;rintro e w1⟨rfl,c⟩))
 rename_i hh;obtain⟨B,C⟩:=hh;have z:Hid (Bl w w1):=(Below.refl _ w).drew.trans c;clear c
 go_wp2_with (go_at_call 142;refine (k _).mono ?_;rintro e D⟨rfl,rfl⟩)
 all_goals (go_ret2;refine⟨?_,z.out⟩;have v:=g.out;have y:=h.out;clear g h j k;simp_all)
theorem q3q(b o:Nat)(x:Vd)(n:Int)(w:World)(u:n<=1125899906842624)(g:vOk x=true)(h0:w.cell? ⟨b,o,none⟩=some (J I x.tok))(h1:w.cell? ⟨b,o+1,none⟩=some (J I x.sh)) :
  Calls prog 103 #[J2 (some ⟨b,o,none⟩),J I n] w fun e w'=>e=.returned (.tuple #[J I (woN x n),J I (woE x n)])/\Bl w w':=by
 obtain⟨k1,r,s⟩:=z2B g;rw[z0I]at k1 r s;have h:=fun w=>z9B n x.tok x.sh w (by omega) (by omega) (by omega)
 have i:=J6 (j8P x n);have j:=J6 (j9q x n);have c:b<w.heap.size:=World.block_lt_of_cell? w _ h0;clear g;obtain⟨d,f,k,l,p⟩:=x;simp only at *;generalize woN ⟨d,f,k,l,p⟩ n=rN at *;generalize woE ⟨d,f,k,l,p⟩ n=rE at *;generalize mdN n d f=m at *;generalize mdE n d f=er at *
 go_enter func103,ntmps103
 go_upto_region 1 with fail
 go_region_held3 (fun q=>q.cell? ⟨b,o,none⟩=some (J I d)/\q.cell? ⟨b,o+1,none⟩=some (J I f)) (first | go_keep | (refine⟨?_,?_⟩ <;> (rw[a.cell c];simp[*])))
  (first | (go_at_call 143;refine (h _).mono ?_;rintro e w1⟨rfl,a⟩))
 rename_i hh;have t:Hid (Bl w w1):=(Below.refl _ w).drew.trans a;clear a hh;go_wp2
 all_goals (go_ret2;refine⟨?_,t.out⟩;have v:=i.out;have y:=j.out;clear i j h;simp_all)
theorem y1Q(b:Bk)(n:Int)(c:Nat)(w:World)(hc:w.cell? ⟨c,0,none⟩=some (J I 0))(f:c<w.heap.size) :
  Calls prog 145 #[J4 #[J I b.f0,J I b.f1,J I b.f2,J I b.f3,J I b.bo,J I b.wa,J I b.bu],(.func (.func 168) #[] #[J2 (some ⟨c,0,none⟩)]),(.func (.func 169) #[] #[]),J I n] w fun e w'=>e=.returned (.tuple #[J4 #[J I (mv b 0 4 n).1.f0,J I (mv b 0 4 n).1.f1,J I (mv b 0 4 n).1.f2,J I (mv b 0 4 n).1.f3,J I (mv b 0 4 n).1.bo,J I (mv b 0 4 n).1.wa,J I (mv b 0 4 n).1.bu],J I (mv b 0 4 n).2])/\Bl w w':=by
 by_cases d:b.good=true
 ·by_cases a:0<=n/\n<=1125899906842624
  ·have h1:¬ (b.good=false∨¬ (0<=n/\n<=1125899906842624)):=by rw[d];simp[a]
   by_cases g:b.f0<n
   ·have e:mv b 0 4 n=(b,7):=by rw[mv,if_neg h1,if_pos (show b.get 0<n from g)]
    rw[e];exact q1a b.f0 b.f1 b.f2 b.f3 b.bo b.wa b.bu n c _ w hc f d a.1 a.2 g
   ·have e:mv b 0 4 n=((b.put 0 (b.f0 - n)).put 4 (b.bo+n),0):=by rw[mv,if_neg h1,if_neg (show ¬ b.get 0<n from g)];rfl
    rw[e];exact q6v b.f0 b.f1 b.f2 b.f3 b.bo b.wa b.bu n c w hc f d a.1 a.2 (by omega)
  ·have e:mv b 0 4 n=(b,2):=by rw[mv,if_pos (.inr a)]
   rw[e];exact z0K b.f0 b.f1 b.f2 b.f3 b.bo b.wa b.bu n _ _ w d a
 ·have e:mv b 0 4 n=(b,2):=by rw[mv,if_pos (.inl (by simpa using d))]
  rw[e];exact z0G b.f0 b.f1 b.f2 b.f3 b.bo b.wa b.bu n _ _ w (by simpa [Bk.good] using d)
theorem y2j(b:Bk)(n:Int)(c:Nat)(w:World)(hc:w.cell? ⟨c,0,none⟩=some (J I 1))(f:c<w.heap.size) :
  Calls prog 145 #[J4 #[J I b.f0,J I b.f1,J I b.f2,J I b.f3,J I b.bo,J I b.wa,J I b.bu],(.func (.func 168) #[] #[J2 (some ⟨c,0,none⟩)]),(.func (.func 169) #[] #[]),J I n] w fun e w'=>e=.returned (.tuple #[J4 #[J I (mv b 1 4 n).1.f0,J I (mv b 1 4 n).1.f1,J I (mv b 1 4 n).1.f2,J I (mv b 1 4 n).1.f3,J I (mv b 1 4 n).1.bo,J I (mv b 1 4 n).1.wa,J I (mv b 1 4 n).1.bu],J I (mv b 1 4 n).2])/\Bl w w':=by
 by_cases d:b.good=true
 ·by_cases a:0<=n/\n<=1125899906842624
  ·have h1:¬ (b.good=false∨¬ (0<=n/\n<=1125899906842624)):=by rw[d];simp[a]
   by_cases g:b.f1<n
   ·have e:mv b 1 4 n=(b,7):=by rw[mv,if_neg h1,if_pos (show b.get 1<n from g)]
    rw[e];exact q1Z b.f0 b.f1 b.f2 b.f3 b.bo b.wa b.bu n c _ w hc f d a.1 a.2 g
   ·have e:mv b 1 4 n=((b.put 1 (b.f1 - n)).put 4 (b.bo+n),0):=by rw[mv,if_neg h1,if_neg (show ¬ b.get 1<n from g)];rfl
    rw[e];exact q5X b.f0 b.f1 b.f2 b.f3 b.bo b.wa b.bu n c w hc f d a.1 a.2 (by omega)
  ·have e:mv b 1 4 n=(b,2):=by rw[mv,if_pos (.inr a)]
   rw[e];exact z0K b.f0 b.f1 b.f2 b.f3 b.bo b.wa b.bu n _ _ w d a
 ·have e:mv b 1 4 n=(b,2):=by rw[mv,if_pos (.inl (by simpa using d))]
  rw[e];exact z0G b.f0 b.f1 b.f2 b.f3 b.bo b.wa b.bu n _ _ w (by simpa [Bk.good] using d)
theorem y2i(b:Bk)(n:Int)(c:Nat)(w:World)(hc:w.cell? ⟨c,0,none⟩=some (J I 2))(f:c<w.heap.size) :
  Calls prog 145 #[J4 #[J I b.f0,J I b.f1,J I b.f2,J I b.f3,J I b.bo,J I b.wa,J I b.bu],(.func (.func 168) #[] #[J2 (some ⟨c,0,none⟩)]),(.func (.func 169) #[] #[]),J I n] w fun e w'=>e=.returned (.tuple #[J4 #[J I (mv b 2 4 n).1.f0,J I (mv b 2 4 n).1.f1,J I (mv b 2 4 n).1.f2,J I (mv b 2 4 n).1.f3,J I (mv b 2 4 n).1.bo,J I (mv b 2 4 n).1.wa,J I (mv b 2 4 n).1.bu],J I (mv b 2 4 n).2])/\Bl w w':=by
 by_cases d:b.good=true
 ·by_cases a:0<=n/\n<=1125899906842624
  ·have h1:¬ (b.good=false∨¬ (0<=n/\n<=1125899906842624)):=by rw[d];simp[a]
   by_cases g:b.f2<n
   ·have e:mv b 2 4 n=(b,7):=by rw[mv,if_neg h1,if_pos (show b.get 2<n from g)]
    rw[e];exact q1T b.f0 b.f1 b.f2 b.f3 b.bo b.wa b.bu n c _ w hc f d a.1 a.2 g
   ·have e:mv b 2 4 n=((b.put 2 (b.f2 - n)).put 4 (b.bo+n),0):=by rw[mv,if_neg h1,if_neg (show ¬ b.get 2<n from g)];rfl
    rw[e];exact q6O b.f0 b.f1 b.f2 b.f3 b.bo b.wa b.bu n c w hc f d a.1 a.2 (by omega)
  ·have e:mv b 2 4 n=(b,2):=by rw[mv,if_pos (.inr a)]
   rw[e];exact z0K b.f0 b.f1 b.f2 b.f3 b.bo b.wa b.bu n _ _ w d a
 ·have e:mv b 2 4 n=(b,2):=by rw[mv,if_pos (.inl (by simpa using d))]
  rw[e];exact z0G b.f0 b.f1 b.f2 b.f3 b.bo b.wa b.bu n _ _ w (by simpa [Bk.good] using d)
theorem y1F(b:Bk)(n:Int)(c:Nat)(w:World)(hc:w.cell? ⟨c,0,none⟩=some (J I 3))(f:c<w.heap.size) :
  Calls prog 145 #[J4 #[J I b.f0,J I b.f1,J I b.f2,J I b.f3,J I b.bo,J I b.wa,J I b.bu],(.func (.func 168) #[] #[J2 (some ⟨c,0,none⟩)]),(.func (.func 169) #[] #[]),J I n] w fun e w'=>e=.returned (.tuple #[J4 #[J I (mv b 3 4 n).1.f0,J I (mv b 3 4 n).1.f1,J I (mv b 3 4 n).1.f2,J I (mv b 3 4 n).1.f3,J I (mv b 3 4 n).1.bo,J I (mv b 3 4 n).1.wa,J I (mv b 3 4 n).1.bu],J I (mv b 3 4 n).2])/\Bl w w':=by
 by_cases d:b.good=true
 ·by_cases a:0<=n/\n<=1125899906842624
  ·have h1:¬ (b.good=false∨¬ (0<=n/\n<=1125899906842624)):=by rw[d];simp[a]
   by_cases g:b.f3<n
   ·have e:mv b 3 4 n=(b,7):=by rw[mv,if_neg h1,if_pos (show b.get 3<n from g)]
    rw[e];exact q1W b.f0 b.f1 b.f2 b.f3 b.bo b.wa b.bu n c _ w hc f d a.1 a.2 g
   ·have e:mv b 3 4 n=((b.put 3 (b.f3 - n)).put 4 (b.bo+n),0):=by rw[mv,if_neg h1,if_neg (show ¬ b.get 3<n from g)];rfl
    rw[e];exact q5M b.f0 b.f1 b.f2 b.f3 b.bo b.wa b.bu n c w hc f d a.1 a.2 (by omega)
  ·have e:mv b 3 4 n=(b,2):=by rw[mv,if_pos (.inr a)]
   rw[e];exact z0K b.f0 b.f1 b.f2 b.f3 b.bo b.wa b.bu n _ _ w d a
 ·have e:mv b 3 4 n=(b,2):=by rw[mv,if_pos (.inl (by simpa using d))]
  rw[e];exact z0G b.f0 b.f1 b.f2 b.f3 b.bo b.wa b.bu n _ _ w (by simpa [Bk.good] using d)
theorem y1T(b:Bk)(n:Int)(c:Nat)(w:World)(hc:w.cell? ⟨c,0,none⟩=some (J I 0))(f:c<w.heap.size) :
  Calls prog 145 #[J4 #[J I b.f0,J I b.f1,J I b.f2,J I b.f3,J I b.bo,J I b.wa,J I b.bu],(.func (.func 170) #[] #[]),(.func (.func 168) #[] #[J2 (some ⟨c,0,none⟩)]),J I n] w fun e w'=>e=.returned (.tuple #[J4 #[J I (mv b 5 0 n).1.f0,J I (mv b 5 0 n).1.f1,J I (mv b 5 0 n).1.f2,J I (mv b 5 0 n).1.f3,J I (mv b 5 0 n).1.bo,J I (mv b 5 0 n).1.wa,J I (mv b 5 0 n).1.bu],J I (mv b 5 0 n).2])/\Bl w w':=by
 by_cases d:b.good=true
 ·by_cases a:0<=n/\n<=1125899906842624
  ·have h1:¬ (b.good=false∨¬ (0<=n/\n<=1125899906842624)):=by rw[d];simp[a]
   by_cases g:b.wa<n
   ·have e:mv b 5 0 n=(b,7):=by rw[mv,if_neg h1,if_pos (show b.get 5<n from g)]
    rw[e];exact z3k b.f0 b.f1 b.f2 b.f3 b.bo b.wa b.bu n _ w d a.1 a.2 g
   ·have e:mv b 5 0 n=((b.put 5 (b.wa - n)).put 0 (b.f0+n),0):=by rw[mv,if_neg h1,if_neg (show ¬ b.get 5<n from g)];rfl
    rw[e];exact q5w b.f0 b.f1 b.f2 b.f3 b.bo b.wa b.bu n c w hc f d a.1 a.2 (by omega)
  ·have e:mv b 5 0 n=(b,2):=by rw[mv,if_pos (.inr a)]
   rw[e];exact z0K b.f0 b.f1 b.f2 b.f3 b.bo b.wa b.bu n _ _ w d a
 ·have e:mv b 5 0 n=(b,2):=by rw[mv,if_pos (.inl (by simpa using d))]
  rw[e];exact z0G b.f0 b.f1 b.f2 b.f3 b.bo b.wa b.bu n _ _ w (by simpa [Bk.good] using d)
theorem y1G(b:Bk)(n:Int)(c:Nat)(w:World)(hc:w.cell? ⟨c,0,none⟩=some (J I 1))(f:c<w.heap.size) :
  Calls prog 145 #[J4 #[J I b.f0,J I b.f1,J I b.f2,J I b.f3,J I b.bo,J I b.wa,J I b.bu],(.func (.func 170) #[] #[]),(.func (.func 168) #[] #[J2 (some ⟨c,0,none⟩)]),J I n] w fun e w'=>e=.returned (.tuple #[J4 #[J I (mv b 5 1 n).1.f0,J I (mv b 5 1 n).1.f1,J I (mv b 5 1 n).1.f2,J I (mv b 5 1 n).1.f3,J I (mv b 5 1 n).1.bo,J I (mv b 5 1 n).1.wa,J I (mv b 5 1 n).1.bu],J I (mv b 5 1 n).2])/\Bl w w':=by
 by_cases d:b.good=true
 ·by_cases a:0<=n/\n<=1125899906842624
  ·have h1:¬ (b.good=false∨¬ (0<=n/\n<=1125899906842624)):=by rw[d];simp[a]
   by_cases g:b.wa<n
   ·have e:mv b 5 1 n=(b,7):=by rw[mv,if_neg h1,if_pos (show b.get 5<n from g)]
    rw[e];exact z3k b.f0 b.f1 b.f2 b.f3 b.bo b.wa b.bu n _ w d a.1 a.2 g
   ·have e:mv b 5 1 n=((b.put 5 (b.wa - n)).put 1 (b.f1+n),0):=by rw[mv,if_neg h1,if_neg (show ¬ b.get 5<n from g)];rfl
    rw[e];exact q5V b.f0 b.f1 b.f2 b.f3 b.bo b.wa b.bu n c w hc f d a.1 a.2 (by omega)
  ·have e:mv b 5 1 n=(b,2):=by rw[mv,if_pos (.inr a)]
   rw[e];exact z0K b.f0 b.f1 b.f2 b.f3 b.bo b.wa b.bu n _ _ w d a
 ·have e:mv b 5 1 n=(b,2):=by rw[mv,if_pos (.inl (by simpa using d))]
  rw[e];exact z0G b.f0 b.f1 b.f2 b.f3 b.bo b.wa b.bu n _ _ w (by simpa [Bk.good] using d)
theorem y2c(b:Bk)(n:Int)(c:Nat)(w:World)(hc:w.cell? ⟨c,0,none⟩=some (J I 2))(f:c<w.heap.size) :
  Calls prog 145 #[J4 #[J I b.f0,J I b.f1,J I b.f2,J I b.f3,J I b.bo,J I b.wa,J I b.bu],(.func (.func 170) #[] #[]),(.func (.func 168) #[] #[J2 (some ⟨c,0,none⟩)]),J I n] w fun e w'=>e=.returned (.tuple #[J4 #[J I (mv b 5 2 n).1.f0,J I (mv b 5 2 n).1.f1,J I (mv b 5 2 n).1.f2,J I (mv b 5 2 n).1.f3,J I (mv b 5 2 n).1.bo,J I (mv b 5 2 n).1.wa,J I (mv b 5 2 n).1.bu],J I (mv b 5 2 n).2])/\Bl w w':=by
 by_cases d:b.good=true
 ·by_cases a:0<=n/\n<=1125899906842624
  ·have h1:¬ (b.good=false∨¬ (0<=n/\n<=1125899906842624)):=by rw[d];simp[a]
   by_cases g:b.wa<n
   ·have e:mv b 5 2 n=(b,7):=by rw[mv,if_neg h1,if_pos (show b.get 5<n from g)]
    rw[e];exact z3k b.f0 b.f1 b.f2 b.f3 b.bo b.wa b.bu n _ w d a.1 a.2 g
   ·have e:mv b 5 2 n=((b.put 5 (b.wa - n)).put 2 (b.f2+n),0):=by rw[mv,if_neg h1,if_neg (show ¬ b.get 5<n from g)];rfl
    rw[e];exact q6u b.f0 b.f1 b.f2 b.f3 b.bo b.wa b.bu n c w hc f d a.1 a.2 (by omega)
  ·have e:mv b 5 2 n=(b,2):=by rw[mv,if_pos (.inr a)]
   rw[e];exact z0K b.f0 b.f1 b.f2 b.f3 b.bo b.wa b.bu n _ _ w d a
 ·have e:mv b 5 2 n=(b,2):=by rw[mv,if_pos (.inl (by simpa using d))]
  rw[e];exact z0G b.f0 b.f1 b.f2 b.f3 b.bo b.wa b.bu n _ _ w (by simpa [Bk.good] using d)
theorem y2g(b:Bk)(n:Int)(c:Nat)(w:World)(hc:w.cell? ⟨c,0,none⟩=some (J I 3))(f:c<w.heap.size) :
  Calls prog 145 #[J4 #[J I b.f0,J I b.f1,J I b.f2,J I b.f3,J I b.bo,J I b.wa,J I b.bu],(.func (.func 170) #[] #[]),(.func (.func 168) #[] #[J2 (some ⟨c,0,none⟩)]),J I n] w fun e w'=>e=.returned (.tuple #[J4 #[J I (mv b 5 3 n).1.f0,J I (mv b 5 3 n).1.f1,J I (mv b 5 3 n).1.f2,J I (mv b 5 3 n).1.f3,J I (mv b 5 3 n).1.bo,J I (mv b 5 3 n).1.wa,J I (mv b 5 3 n).1.bu],J I (mv b 5 3 n).2])/\Bl w w':=by
 by_cases d:b.good=true
 ·by_cases a:0<=n/\n<=1125899906842624
  ·have h1:¬ (b.good=false∨¬ (0<=n/\n<=1125899906842624)):=by rw[d];simp[a]
   by_cases g:b.wa<n
   ·have e:mv b 5 3 n=(b,7):=by rw[mv,if_neg h1,if_pos (show b.get 5<n from g)]
    rw[e];exact z3k b.f0 b.f1 b.f2 b.f3 b.bo b.wa b.bu n _ w d a.1 a.2 g
   ·have e:mv b 5 3 n=((b.put 5 (b.wa - n)).put 3 (b.f3+n),0):=by rw[mv,if_neg h1,if_neg (show ¬ b.get 5<n from g)];rfl
    rw[e];exact q6Y b.f0 b.f1 b.f2 b.f3 b.bo b.wa b.bu n c w hc f d a.1 a.2 (by omega)
  ·have e:mv b 5 3 n=(b,2):=by rw[mv,if_pos (.inr a)]
   rw[e];exact z0K b.f0 b.f1 b.f2 b.f3 b.bo b.wa b.bu n _ _ w d a
 ·have e:mv b 5 3 n=(b,2):=by rw[mv,if_pos (.inl (by simpa using d))]
  rw[e];exact z0G b.f0 b.f1 b.f2 b.f3 b.bo b.wa b.bu n _ _ w (by simpa [Bk.good] using d)
theorem y2m(b:Bk)(n:Int)(w:World) :
  Calls prog 145 #[J4 #[J I b.f0,J I b.f1,J I b.f2,J I b.f3,J I b.bo,J I b.wa,J I b.bu],(.func (.func 169) #[] #[]),(.func (.func 170) #[] #[]),J I n] w fun e w'=>e=.returned (.tuple #[J4 #[J I (mv b 4 5 n).1.f0,J I (mv b 4 5 n).1.f1,J I (mv b 4 5 n).1.f2,J I (mv b 4 5 n).1.f3,J I (mv b 4 5 n).1.bo,J I (mv b 4 5 n).1.wa,J I (mv b 4 5 n).1.bu],J I (mv b 4 5 n).2])/\Bl w w':=by
 by_cases c:b.good=true
 ·by_cases a:0<=n/\n<=1125899906842624
  ·have h1:¬ (b.good=false∨¬ (0<=n/\n<=1125899906842624)):=by rw[c];simp[a]
   by_cases d:b.bo<n
   ·have e:mv b 4 5 n=(b,7):=by rw[mv,if_neg h1,if_pos (show b.get 4<n from d)]
    rw[e];exact z7k b.f0 b.f1 b.f2 b.f3 b.bo b.wa b.bu n _ w c a.1 a.2 d
   ·have e:mv b 4 5 n=((b.put 4 (b.bo - n)).put 5 (b.wa+n),0):=by rw[mv,if_neg h1,if_neg (show ¬ b.get 4<n from d)];rfl
    rw[e];exact q6c b.f0 b.f1 b.f2 b.f3 b.bo b.wa b.bu n w c a.1 a.2 (by omega)
  ·have e:mv b 4 5 n=(b,2):=by rw[mv,if_pos (.inr a)]
   rw[e];exact z0K b.f0 b.f1 b.f2 b.f3 b.bo b.wa b.bu n _ _ w c a
 ·have e:mv b 4 5 n=(b,2):=by rw[mv,if_pos (.inl (by simpa using c))]
  rw[e];exact z0G b.f0 b.f1 b.f2 b.f3 b.bo b.wa b.bu n _ _ w (by simpa [Bk.good] using c)
theorem y2p(b:Bk)(n:Int)(w:World) :
  Calls prog 145 #[J4 #[J I b.f0,J I b.f1,J I b.f2,J I b.f3,J I b.bo,J I b.wa,J I b.bu],(.func (.func 169) #[] #[]),(.func (.func 192) #[] #[]),J I n] w fun e w'=>e=.returned (.tuple #[J4 #[J I (mv b 4 6 n).1.f0,J I (mv b 4 6 n).1.f1,J I (mv b 4 6 n).1.f2,J I (mv b 4 6 n).1.f3,J I (mv b 4 6 n).1.bo,J I (mv b 4 6 n).1.wa,J I (mv b 4 6 n).1.bu],J I (mv b 4 6 n).2])/\Bl w w':=by
 by_cases c:b.good=true
 ·by_cases a:0<=n/\n<=1125899906842624
  ·have h1:¬ (b.good=false∨¬ (0<=n/\n<=1125899906842624)):=by rw[c];simp[a]
   by_cases d:b.bo<n
   ·have e:mv b 4 6 n=(b,7):=by rw[mv,if_neg h1,if_pos (show b.get 4<n from d)]
    rw[e];exact z7k b.f0 b.f1 b.f2 b.f3 b.bo b.wa b.bu n _ w c a.1 a.2 d
   ·have e:mv b 4 6 n=((b.put 4 (b.bo - n)).put 6 (b.bu+n),0):=by rw[mv,if_neg h1,if_neg (show ¬ b.get 4<n from d)];rfl
    rw[e];exact q6N b.f0 b.f1 b.f2 b.f3 b.bo b.wa b.bu n w c a.1 a.2 (by omega)
  ·have e:mv b 4 6 n=(b,2):=by rw[mv,if_pos (.inr a)]
   rw[e];exact z0K b.f0 b.f1 b.f2 b.f3 b.bo b.wa b.bu n _ _ w c a
 ·have e:mv b 4 6 n=(b,2):=by rw[mv,if_pos (.inl (by simpa using c))]
  rw[e];exact z0G b.f0 b.f1 b.f2 b.f3 b.bo b.wa b.bu n _ _ w (by simpa [Bk.good] using c)
theorem y1B(b:Bk)(n:Int)(w:World) :
  Calls prog 145 #[J4 #[J I b.f0,J I b.f1,J I b.f2,J I b.f3,J I b.bo,J I b.wa,J I b.bu],(.func (.func 170) #[] #[]),(.func (.func 192) #[] #[]),J I n] w fun e w'=>e=.returned (.tuple #[J4 #[J I (mv b 5 6 n).1.f0,J I (mv b 5 6 n).1.f1,J I (mv b 5 6 n).1.f2,J I (mv b 5 6 n).1.f3,J I (mv b 5 6 n).1.bo,J I (mv b 5 6 n).1.wa,J I (mv b 5 6 n).1.bu],J I (mv b 5 6 n).2])/\Bl w w':=by
 by_cases c:b.good=true
 ·by_cases a:0<=n/\n<=1125899906842624
  ·have h1:¬ (b.good=false∨¬ (0<=n/\n<=1125899906842624)):=by rw[c];simp[a]
   by_cases d:b.wa<n
   ·have e:mv b 5 6 n=(b,7):=by rw[mv,if_neg h1,if_pos (show b.get 5<n from d)]
    rw[e];exact z3k b.f0 b.f1 b.f2 b.f3 b.bo b.wa b.bu n _ w c a.1 a.2 d
   ·have e:mv b 5 6 n=((b.put 5 (b.wa - n)).put 6 (b.bu+n),0):=by rw[mv,if_neg h1,if_neg (show ¬ b.get 5<n from d)];rfl
    rw[e];exact q7c b.f0 b.f1 b.f2 b.f3 b.bo b.wa b.bu n w c a.1 a.2 (by omega)
  ·have e:mv b 5 6 n=(b,2):=by rw[mv,if_pos (.inr a)]
   rw[e];exact z0K b.f0 b.f1 b.f2 b.f3 b.bo b.wa b.bu n _ _ w c a
 ·have e:mv b 5 6 n=(b,2):=by rw[mv,if_pos (.inl (by simpa using c))]
  rw[e];exact z0G b.f0 b.f1 b.f2 b.f3 b.bo b.wa b.bu n _ _ w (by simpa [Bk.good] using c)
theorem j1M(b:Bk)(d n:Int)(w:World):Calls prog 101 #[J4 #[J I b.f0,J I b.f1,J I b.f2,J I b.f3,J I b.bo,J I b.wa,J I b.bu],J I d,J I n] w fun e w'=>e=.returned (.tuple #[J4 #[J I (z2T b d n).1.f0,J I (z2T b d n).1.f1,J I (z2T b d n).1.f2,J I (z2T b d n).1.f3,J I (z2T b d n).1.bo,J I (z2T b d n).1.wa,J I (z2T b d n).1.bu],J I (z2T b d n).2])/\Bl w w':=by
 by_cases h:0<=d/\d<4
 ·rw[z2T,if_pos h];refine q8V b.f0 b.f1 b.f2 b.f3 b.bo b.wa b.bu d n (mv b d.toNat 4 n).1.f0 (mv b d.toNat 4 n).1.f1 (mv b d.toNat 4 n).1.f2 (mv b d.toNat 4 n).1.f3 (mv b d.toNat 4 n).1.bo (mv b d.toNat 4 n).1.wa (mv b d.toNat 4 n).1.bu (mv b d.toNat 4 n).2 w h.1 h.2 ?_;intro c w hc a
  rcases (show d=0∨d=1∨d=2∨d=3 by omega) with rfl | rfl | rfl | rfl
  ·exact y1Q b n c w hc a
  ·exact y2j b n c w hc a
  ·exact y2i b n c w hc a
  ·exact y1F b n c w hc a
 ·rw[z2T,if_neg h];exact j6t b.f0 b.f1 b.f2 b.f3 b.bo b.wa b.bu d n w h
theorem j7g(b:Bk)(d n:Int)(w:World):Calls prog 111 #[J4 #[J I b.f0,J I b.f1,J I b.f2,J I b.f3,J I b.bo,J I b.wa,J I b.bu],J I d,J I n] w fun e w'=>e=.returned (.tuple #[J4 #[J I (z8J b d n).1.f0,J I (z8J b d n).1.f1,J I (z8J b d n).1.f2,J I (z8J b d n).1.f3,J I (z8J b d n).1.bo,J I (z8J b d n).1.wa,J I (z8J b d n).1.bu],J I (z8J b d n).2])/\Bl w w':=by
 by_cases h:0<=d/\d<4
 ·rw[z8J,if_pos h];refine j2C b.f0 b.f1 b.f2 b.f3 b.bo b.wa b.bu d n (mv b 5 d.toNat n).1.f0 (mv b 5 d.toNat n).1.f1 (mv b 5 d.toNat n).1.f2 (mv b 5 d.toNat n).1.f3 (mv b 5 d.toNat n).1.bo (mv b 5 d.toNat n).1.wa (mv b 5 d.toNat n).1.bu (mv b 5 d.toNat n).2 w h.1 h.2 ?_;intro c w hc a
  rcases (show d=0∨d=1∨d=2∨d=3 by omega) with rfl | rfl | rfl | rfl
  ·exact y1T b n c w hc a
  ·exact y1G b n c w hc a
  ·exact y2c b n c w hc a
  ·exact y2g b n c w hc a
 ·rw[z8J,if_neg h];exact y0x b.f0 b.f1 b.f2 b.f3 b.bo b.wa b.bu d n w h
theorem q5Q(b:Bk)(n:Int)(w:World):Calls prog 104 #[J4 #[J I b.f0,J I b.f1,J I b.f2,J I b.f3,J I b.bo,J I b.wa,J I b.bu],J I n] w fun e w'=>e=.returned (.tuple #[J4 #[J I (z1e b n).1.f0,J I (z1e b n).1.f1,J I (z1e b n).1.f2,J I (z1e b n).1.f3,J I (z1e b n).1.bo,J I (z1e b n).1.wa,J I (z1e b n).1.bu],J I (z1e b n).2])/\Bl w w':=
 q2S b.f0 b.f1 b.f2 b.f3 b.bo b.wa b.bu n (mv b 4 5 n).1.f0 (mv b 4 5 n).1.f1 (mv b 4 5 n).1.f2 (mv b 4 5 n).1.f3 (mv b 4 5 n).1.bo (mv b 4 5 n).1.wa (mv b 4 5 n).1.bu (mv b 4 5 n).2 w (y2m b n)
theorem j2W(b:Bk)(x y:Int)(w:World):Calls prog 151 #[J4 #[J I b.f0,J I b.f1,J I b.f2,J I b.f3,J I b.bo,J I b.wa,J I b.bu],J I x,J I y] w fun e w'=>e=.returned (.tuple #[J4 #[J I (z3d b x y).1.f0,J I (z3d b x y).1.f1,J I (z3d b x y).1.f2,J I (z3d b x y).1.f3,J I (z3d b x y).1.bo,J I (z3d b x y).1.wa,J I (z3d b x y).1.bu],J I (z3d b x y).2])/\Bl w w':=by
 refine j1l b.f0 b.f1 b.f2 b.f3 b.bo b.wa b.bu x y (mv b 4 6 x).1.f0 (mv b 4 6 x).1.f1 (mv b 4 6 x).1.f2 (mv b 4 6 x).1.f3 (mv b 4 6 x).1.bo (mv b 4 6 x).1.wa (mv b 4 6 x).1.bu (mv b 4 6 x).2 (mv (mv b 4 6 x).1 5 6 y).1.f0 (mv (mv b 4 6 x).1 5 6 y).1.f1 (mv (mv b 4 6 x).1 5 6 y).1.f2 (mv (mv b 4 6 x).1 5 6 y).1.f3 (mv (mv b 4 6 x).1 5 6 y).1.bo (mv (mv b 4 6 x).1 5 6 y).1.wa (mv (mv b 4 6 x).1 5 6 y).1.bu (mv (mv b 4 6 x).1 5 6 y).2 (z3d b x y).1.f0 (z3d b x y).1.f1 (z3d b x y).1.f2 (z3d b x y).1.f3 (z3d b x y).1.bo (z3d b x y).1.wa (z3d b x y).1.bu (z3d b x y).2 w ?_ (y2p b x) (y1B (mv b 4 6 x).1 y);unfold z3d
 by_cases h1:(mv b 4 6 x).2=0
 ·by_cases h2:(mv (mv b 4 6 x).1 5 6 y).2=0
  ·rw[if_pos h1,if_pos h2];exact .inr (.inr ⟨h1,h2,rfl,rfl,rfl,rfl,rfl,rfl,rfl,rfl⟩)
  ·rw[if_pos h1,if_neg h2];exact .inr (.inl ⟨h1,h2,rfl,rfl,rfl,rfl,rfl,rfl,rfl,rfl⟩)
 ·rw[if_neg h1];exact .inl ⟨h1,rfl,rfl,rfl,rfl,rfl,rfl,rfl,rfl⟩
end
section
open Go.RowKit
theorem q2n{s:St}{d v n:Int}(h:z0Z s d v≠0):z0Q s d v n=(s,z0Z s d v):=if_neg h
theorem z9q{s:St}{d v n:Int}(h:z0Z s d v=0)(h1:(s.V v.toNat).dead=true):z0Q s d v n=(s,15):=by rw[z0Q,if_pos h,if_pos h1]
theorem z8p{s:St}{d v n:Int}(h:z0Z s d v=0)(h1:(s.V v.toNat).dead=false)(h2:(decide (0<n) && inA n)=false):z0Q s d v n=(s,2):=by rw[z0Q,if_pos h,if_neg (by simp[h1]),if_neg (by simp[h2])]
theorem q2h{s:St}{d v n:Int}(h:z0Z s d v=0)(h1:(s.V v.toNat).dead=false)(h2:(decide (0<n) && inA n)=true)(h3:shE (s.V v.toNat) n≠0):z0Q s d v n=(s,shE (s.V v.toNat) n):=by rw[z0Q,if_pos h,if_neg (by simp[h1]),if_pos h2,if_neg h3]
theorem z9n{s:St}{d v n:Int}(h:z0Z s d v=0)(h1:(s.V v.toNat).dead=false)(h2:(decide (0<n) && inA n)=true)(h3:shE (s.V v.toNat) n=0)(a:(z2T s.b d n).2≠0):z0Q s d v n=(s,(z2T s.b d n).2):=by rw[z0Q,if_pos h,if_neg (by simp[h1]),if_pos h2,if_pos h3,if_neg a]
theorem q3M{s:St}{d v n:Int}(h:z0Z s d v=0)(h1:(s.V v.toNat).dead=false)(h2:(decide (0<n) && inA n)=true)(h3:shE (s.V v.toNat) n=0)(a:(z2T s.b d n).2=0):z0Q s d v n=(z8S { s with b:=(z2T s.b d n).1 } d.toNat v.toNat n (shN (s.V v.toNat) n),0):=by rw[z0Q,if_pos h,if_neg (by simp[h1]),if_pos h2,if_pos h3,if_pos a]
theorem q0C{s:St}{d v:Int}(h:z0Z s d v=0):z0k s=true/\(0<=v/\v<6)/\(0<=d/\d<4):=by
 unfold z0Z z6z at h
 repeat' split at h
 all_goals first | (simp_all [z3p,z5J];done) | omega
theorem z4M{s:St}(h:z0k s=true)(k:Nat)(a:k<6):vOk (s.V k)=true/\z3G s.S k 4=true:=by
 unfold z0k at h;simp only[Bool.and_eq_true]at h;have:=q4K h.1.2 a;unfold j4O q5h at this;simp only[Bool.and_eq_true]at this;exact⟨this.1,this.2.1⟩
theorem z7h{S:Nat->Nat->Int}{v d:Nat}(h:z3G S v 4=true)(hd:d<4):inA (S d v)=true:=by
 simp only[z3G,Bool.and_eq_true]at h
 rcases (show d=0∨d=1∨d=2∨d=3 by omega) with rfl | rfl | rfl | rfl
 ·exact h.1.1.1.2
 ·exact h.1.1.2
 ·exact h.1.2
 ·exact h.2
theorem j9W(s:St)(sl:Value)(x:Int):(stC s sl).setIfInBounds 0 (J I x)=stC { s with b:={ s.b with f0:=x } } sl:=rfl
theorem j9J(s:St)(sl:Value)(x:Int):(stC s sl).setIfInBounds 1 (J I x)=stC { s with b:={ s.b with f1:=x } } sl:=rfl
theorem y0p(s:St)(sl:Value)(x:Int):(stC s sl).setIfInBounds 2 (J I x)=stC { s with b:={ s.b with f2:=x } } sl:=rfl
theorem y1d(s:St)(sl:Value)(x:Int):(stC s sl).setIfInBounds 3 (J I x)=stC { s with b:={ s.b with f3:=x } } sl:=rfl
theorem j9z(s:St)(sl:Value)(x:Int):(stC s sl).setIfInBounds 4 (J I x)=stC { s with b:={ s.b with bo:=x } } sl:=rfl
theorem y0n(s:St)(sl:Value)(x:Int):(stC s sl).setIfInBounds 5 (J I x)=stC { s with b:={ s.b with wa:=x } } sl:=rfl
theorem j9w(s:St)(sl:Value)(x:Int):(stC s sl).setIfInBounds 6 (J I x)=stC { s with b:={ s.b with bu:=x } } sl:=rfl
def z6H(w:World)(b:Nat)(x:Bk):World:=((((((w.setCell ⟨b,0,none⟩ (J I x.f0)).setCell ⟨b,1,none⟩ (J I x.f1)).setCell ⟨b,2,none⟩ (J I x.f2)).setCell ⟨b,3,none⟩ (J I x.f3)).setCell ⟨b,4,none⟩ (J I x.bo)).setCell ⟨b,5,none⟩ (J I x.wa)).setCell ⟨b,6,none⟩ (J I x.bu)
theorem SAt.z6H{w:World}{b c:Nat}{cs:Array Value}(h:SAt w c cs)(hc:c≠b)(x:Bk):SAt (Go.Proofs.YtddlhnoedldidaaGreat.z6H w b x) c cs:=((((((h.other hc _).other hc _).other hc _).other hc _).other hc _).other hc _).other hc _
theorem q5m{B b:Nat}{w w':World}(h:Below B w w')(a:B<=b)(x:Bk):Below B w (z6H w' b x):=((((((h.setCell a _).setCell a _).setCell a _).setCell a _).setCell a _).setCell a _).setCell a _
theorem z7w{w:World}{b:Nat}{s:St}{sl:Value}(h:SAt w b (stC s sl))(x:Bk):SAt (z6H w b x) b (stC { s with b:=x } sl):=by
 have h0:=h.set 0 (J I x.f0);rw[j9W]at h0;have h1:=h0.set 1 (J I x.f1);rw[j9J]at h1;have h2:=h1.set 2 (J I x.f2);rw[y0p]at h2;have h3:=h2.set 3 (J I x.f3);rw[y1d]at h3;have a:=h3.set 4 (J I x.bo);rw[j9z]at a;have c:=a.set 5 (J I x.wa);rw[y0n]at c;have d:=c.set 6 (J I x.bu);rw[j9w]at d;exact d
theorem q7s(x:Vd){n:Int}(a:n<=1125899906842624):shN x n<=1125899906842624/\(0<=n->0<=shN x n):=by
 have:=z4K n x.sh x.tok;unfold shN
 split
 ·omega
 ·split
  ·omega
  ·split <;> omega
theorem z5F{s:St}{d v:Nat}(a:z0k s=true)(hd:d<4)(b:v<6):z0Z s d v=0:=by
 unfold z0Z z6z;rw[a,z3p.2 (show (0:Int)<=v/\(v:Int)<6 by omega),z5J.2 (show (0:Int)<=d/\(d:Int)<4 by omega)]
 rfl
section
variable {f:Func} {w w1:World} {s:St} {ao:Option Addr} {n c:Nat}
end
theorem j2L(s:St)(ao:Option Addr)(sb so c:Nat)(d v n:Int)(w:World)(g:z2L w ao sb so s.W)(r:St×Int)(h0:z0Z s d v≠0)(h:r=(s,z0Z s d v)) :
  Calls prog 68 #[J4 (stC s (J1 ao s.W.length c)),J I d,J I v,J I n] w fun e w'=>e=.returned (.tuple #[J4 (stC r.1 (J1 ao s.W.length c)),J I r.2])/\Bl w w':=by
 have a:=(SAt.new w (stC s (J1 ao s.W.length c))).alloc (J5 Z63 43);have RR:=SAt.new2 w (J5 (stC s (J1 ao s.W.length c)) 43) Z63;have b:Hid (Bl w ((w.alloc (J5 (stC s (J1 ao s.W.length c)) 43)).alloc (J5 Z63 43))):=(znw w _).alloc (by simp) _
 have HW:=J6 g;have HR:=J6 h;clear g h
 go_enter func68,ntmps68
 go_upto_region 1 with fail
 change Code.wp prog _ _ _ ((w.alloc (J5 (stC s (J1 ao s.W.length c)) 43)).alloc (J5 Z63 43));generalize (w.alloc (J5 (stC s (J1 ao s.W.length c)) 43)).alloc (J5 Z63 43)=w0 at *
 go_upto_region 2 with (go_at_call 98;refine (z2Q s ao sb so c w.heap.size d v _ a (by exact HW.out.over b.out)).mono ?_;rintro e w1⟨rfl,h1⟩)
 have f:Hid (Bl w w1):=zbt b.out h1;have j:=a.later h1 a.lt;have i:=RR.later h1 RR.lt;clear a RR h1 b
 go_upto_region 3 with fail
 apply wp_region_lit;refine wpList_load_mid rfl 43 _ rfl _ 0 rfl _ _ j.range underlying43 rfl (by rw[z0B];rfl) ?_
 refine z1U rfl _ rfl ?_;refine wpList_store_mid rfl 43 _ _ rfl _ 0 (stC s (J1 ao s.W.length c)) rfl rfl (i.there 0 _ (by rw[z0v,z0f];omega)) (by rw[z0B];rfl) (z0E _ _ _ _) ?_
 go_wp2;exact z0O results68 i rfl f.out (by omega) s _ _ r HR.out _ rfl rfl rfl
theorem j1m(s:St)(ao:Option Addr)(sb so c d v:Nat)(n:Int)(w:World)(hW:z2L w ao sb so s.W)(r:St×Int)(hg:z0k s=true)(hd:d<4)(P:v<6)(B:Bk)(q:Int)
  (a:∀ w:World,Calls prog 101 #[J4 #[J I s.b.f0,J I s.b.f1,J I s.b.f2,J I s.b.f3,J I s.b.bo,J I s.b.wa,J I s.b.bu],J I (d:Int),J I n] w fun e w'=>e=.returned (.tuple #[J4 #[J I B.f0,J I B.f1,J I B.f2,J I B.f3,J I B.bo,J I B.wa,J I B.bu],J I q])/\Bl w w')
  (h1:(s.V v).dead=true->r=(s,15)) (h2:(s.V v).dead=false->(decide (0<n) && inA n)=false->r=(s,2))
  (h3:(s.V v).dead=false->(decide (0<n) && inA n)=true->shE (s.V v) n≠0->r=(s,shE (s.V v) n))
  (h4:(s.V v).dead=false->(decide (0<n) && inA n)=true->shE (s.V v) n=0->q≠0->r=(s,q))
  (h5:(s.V v).dead=false->(decide (0<n) && inA n)=true->shE (s.V v) n=0->q=0->r=(z8S { s with b:=B } d v n (shN (s.V v) n),0)) :
  Calls prog 68 #[J4 (stC s (J1 ao s.W.length c)),J I (d:Int),J I (v:Int),J I n] w fun e w'=>e=.returned (.tuple #[J4 (stC r.1 (J1 ao s.W.length c)),J I r.2])/\Bl w w':=by
 have Q:=(SAt.new w (stC s (J1 ao s.W.length c))).alloc (J5 Z63 43);have RR:=SAt.new2 w (J5 (stC s (J1 ao s.W.length c)) 43) Z63;have S:Hid (Bl w ((w.alloc (J5 (stC s (J1 ao s.W.length c)) 43)).alloc (J5 Z63 43))):=(znw w _).alloc (by simp) _
 have HW:=J6 hW;have H1:=J6 h1;have H2:=J6 h2;have H3:=J6 h3;have H4:=J6 h4;have H5:=J6 h5;obtain⟨k,y⟩:=z4M hg v P;have hS:=z8X n;have a2:=z5F hg hd P;have a3:(d:Int)<4:=by omega
 have a4:(v:Int)<6:=by omega
 have hd0:(0:Int)<=(d:Int):=by omega
 have a5:(0:Int)<=(v:Int):=by omega
 have z:=fun w b o (T:n<=1125899906842624)=>z9T b o (s.V v) n w T k;have U:=fun w h=>z2Q s ao sb so c w.heap.size d v w h;clear hW h1 h2 h3 h4 h5
 go_enter func68,ntmps68
 go_upto_region 1 with fail
 change Code.wp prog _ _ _ ((w.alloc (J5 (stC s (J1 ao s.W.length c)) 43)).alloc (J5 Z63 43));generalize (w.alloc (J5 (stC s (J1 ao s.W.length c)) 43)).alloc (J5 Z63 43)=w0 at *
 go_upto_region 2 with (go_at_call 98;refine (z2Q s ao sb so c w.heap.size d v _ Q (by exact HW.out.over S.out)).mono ?_;rintro e w1⟨rfl,h1⟩)
 have g:Hid (Bl w w1):=zbt S.out h1;have l:=Q.later h1 Q.lt;have i:=RR.later h1 RR.lt;obtain⟨A,C,D,E,F,G,H,K,L⟩:=z0u l;obtain⟨c0,c1,c2,c3,c4⟩:=l.val v P;have a6:w.heap.size+1<w1.heap.size:=i.lt;have X:Hid ((decide (0<n) && inA n)=true->0<n/\n<=1125899906842624):=fun h=>by simp only[Bool.and_eq_true,decide_eq_true_eq,z0I]at h;omega
 generalize (decide (0<n) && inA n)=t at *;clear Q RR h1 S K L U c2 c3;generalize Y:(s.V v).dead=dd at *;clear Y
 go_upto_region 15 with (first
  | (go_at_call 99;refine (hS _).mono ?_;rintro e w2⟨rfl,rfl⟩)
  | (go_at_call 100;refine (z _ _ _ (by exact (X.out (by simpa using ‹(!t)=false›)).2) c0 c1).mono ?_;rintro e w2⟨rfl,h2⟩;have m:Hid (Bl w w2):=g.out.trans (h2.mono (by omega));have M:=l.later h2 l.lt;have u:=i.later h2 i.lt;clear A C D E F G H;obtain⟨A,C,D,E,F,G,H,K,L⟩:=z0u M;have a7:=u.lt;clear h2 K L)
  | (go_at_call 101;refine (a _).mono ?_;rintro e x⟨rfl,h3⟩;have N:Hid (Bl w x):=m.out.trans (h3.mono (by omega));have S3:=M.later h3 M.lt;have Z:=u.later h3 u.lt;have a8:w.heap.size+1<x.heap.size:=Z.lt;have f:=S3.alloc (J5 #[J I B.f0,J I B.f1,J I B.f2,J I B.f3,J I B.bo,J I B.wa,J I B.bu] 35);have R:=Z.alloc (J5 #[J I B.f0,J I B.f1,J I B.f2,J I B.f3,J I B.bo,J I B.wa,J I B.bu] 35);have p:Hid (Bl w (x.alloc (J5 #[J I B.f0,J I B.f1,J I B.f2,J I B.f3,J I B.bo,J I B.wa,J I B.bu] 35))):=N.out.alloc (by omega) _;clear h3 A C D E F G H S3 Z)
  | ((fail_if_success (go_not_at_region 6));apply wp_region_lit;refine wpList_load_mid rfl 43 _ rfl _ 0 rfl _ _ l.range underlying43 rfl (by rw[z0B];rfl) ?_;refine wpList_store_mid rfl 43 _ _ rfl _ 0 (stC s (J1 ao s.W.length c)) rfl rfl (i.there 0 _ (by rw[z0v,z0f];omega)) (by rw[z0B];rfl) (z0E _ _ _ _) ?_)
  | ((fail_if_success (go_not_at_region 8));apply wp_region_lit;refine wpList_load_mid rfl 43 _ rfl _ 0 rfl _ _ l.range underlying43 rfl (by rw[z0B];rfl) ?_;refine wpList_store_mid rfl 43 _ _ rfl _ 0 (stC s (J1 ao s.W.length c)) rfl rfl (i.there 0 _ (by rw[z0v,z0f];omega)) (by rw[z0B];rfl) (z0E _ _ _ _) ?_)
  | ((fail_if_success (go_not_at_region 11));apply wp_region_lit;refine wpList_load_mid rfl 43 _ rfl _ 0 rfl _ _ M.range underlying43 rfl (by rw[z0B];rfl) ?_;refine z1U rfl _ rfl ?_;refine wpList_store_mid rfl 43 _ _ rfl _ 0 (stC s (J1 ao s.W.length c)) rfl rfl (u.there 0 _ (by rw[z0v,z0f];omega)) (by rw[z0B];rfl) (z0E _ _ _ _) ?_)
  | ((fail_if_success (go_not_at_region 14));apply wp_region_lit;refine wpList_load_mid rfl 43 _ rfl _ 0 rfl _ _ f.range underlying43 rfl (by rw[z0B];rfl) ?_;refine z1U rfl _ rfl ?_;refine wpList_store_mid rfl 43 _ _ rfl _ 0 (stC s (J1 ao s.W.length c)) rfl rfl (R.there 0 _ (by rw[z0v,z0f];omega)) (by rw[z0B];rfl) (z0E _ _ _ _) ?_))
 ·exact z0O results68 i rfl g.out (by omega) s _ _ r (H1.out ‹dd=true›) _ rfl rfl rfl
 ·exact z0O results68 i rfl g.out (by omega) s _ _ r (H2.out ‹dd=false› (by simpa using ‹(!t)=true›)) _ rfl rfl rfl
 ·exact z0O results68 u rfl m.out (by omega) s _ _ r (H3.out ‹dd=false› (by simpa using ‹(!t)=false›) (by simpa using ‹(shE (s.V v) n != 0)=true›)) _ rfl rfl rfl
 ·exact z0O results68 R rfl p.out (by omega) s _ _ r (H4.out ‹dd=false› (by simpa using ‹(!t)=false›) (by simpa using ‹(shE (s.V v) n != 0)=false›) (by simpa using ‹(q != 0)=true›)) _ rfl rfl rfl
 ·have HR:Hid (r=(z8S { s with b:=B } d v n (shN (s.V v) n),0)):=H5.out ‹dd=false› (by simpa using ‹(!t)=false›) (by simpa using ‹(shE (s.V v) n != 0)=false›) (by simpa using ‹(q != 0)=false›)
  have T:=X.out (by simpa using ‹(!t)=false›)
  obtain⟨k1,k2,k3⟩:=z2B k;have k4:=z7h y hd;rw[z0I]at k1 k2 k4;have k5:=q7s (s.V v) T.2;obtain⟨A,C,D,E,F,G,H,K,L⟩:=z0u f;have f0:=f.free 0;have f1:=f.free 1;have f2:=f.free 2;have f3:=f.free 3;have f4:=f.free 4;have f5:=f.free 5;have f6:=f.free 6;have a9:w.heap.size≠x.heap.size:=by omega
  clear H1 H2 H3 H4 H5 X a z hS c0 c1 c4 K L l M i u g m k y k3
  go_upto_region 16 with fail
  change Code.wp prog _ _ _ (z6H (x.alloc (J5 #[J I B.f0,J I B.f1,J I B.f2,J I B.f3,J I B.bo,J I B.wa,J I B.bu] 35)) w.heap.size B);have S5:=z7w f B;have R5:=R.z6H (b:=w.heap.size) (by omega) B
  have a0:=J6 (q5m p.out (Nat.le_refl _) B);generalize z6H (x.alloc (J5 #[J I B.f0,J I B.f1,J I B.f2,J I B.f3,J I B.bo,J I B.wa,J I B.bu] 35)) w.heap.size B=w5 at *;have hA:=q4L { s with b:=B } (J1 ao s.W.length c) w.heap.size d v n (shN (s.V v) n) w5 S5 hd P (by simp only;omega) (by simp only;omega) (by simp only;omega)
  clear A C D E F G H f0 f1 f2 f3 f4 f5 f6 f R N p S5
  go_upto_region 17 with (go_at_call 102;refine hA.mono ?_;rintro e w6⟨rfl,S6,j⟩)
  have R6:=j.z1q (by omega) R5
  have a1:=J6 (a0.out.trans (j.below (Nat.le_refl _)));apply wp_region_lit;refine wpList_load_mid rfl 43 _ rfl _ 0 rfl _ _ S6.range underlying43 rfl (by rw[z0B];rfl) ?_
  refine wpList_store_mid rfl 43 _ _ rfl _ 0 (stC (z8S { s with b:=B } d v n (shN (s.V v) n)) (J1 ao s.W.length c)) rfl rfl (R6.there 0 _ (by rw[z0v,z0f];omega)) (by rw[z0B];rfl) (z0E _ _ _ _) ?_
  go_wp2;exact z0O results68 R6 rfl a1.out (by omega) _ _ _ r HR.out _ rfl rfl rfl
theorem q8Q(s:St)(ao:Option Addr)(sb so c:Nat)(d v n:Int)(w:World)(a:z2L w ao sb so s.W) :
  Calls prog 68 #[J4 (stC s (J1 ao s.W.length c)),J I d,J I v,J I n] w fun e w'=>e=.returned (.tuple #[J4 (stC (z0Q s d v n).1 (J1 ao s.W.length c)),J I (z0Q s d v n).2])/\Bl w w':=by
 by_cases h:z0Z s d v=0
 ·obtain⟨f,⟨v0,v1⟩,g,i⟩:=q0C h;obtain⟨v,rfl⟩:=Int.eq_ofNat_of_zero_le v0;obtain⟨d,rfl⟩:=Int.eq_ofNat_of_zero_le g;exact j1m s ao sb so c d v n w a _ f (by omega) (by omega) _ _ (j1M s.b d n) (z9q h) (z8p h) (q2h h) (z9n h) (q3M h)
 ·exact j2L s ao sb so c d v n w a _ h (q2n h)
end
section
open Go.RowKit
def j4v(s:St)(d v:Nat)(a n:Int)(B:Bk)(x:Wt):St:={ z8S { s with b:=B } d v (-a) (-n) with W:=s.W ++ [x],next:=s.next+1 }
def z0N(s:St)(d v n:Int)(y:Wt):St×Int:=
 if z0Z s d v=0 then
  if (decide (0<n) && inA n)=true/\0<=y.hei/\0<=y.due then
   if n<=s.S d.toNat v.toNat then
    if s.W.length<60/\s.next<1125899906842624 then
     if woE (s.V v.toNat) n=0 then
      if (z1e s.b (woN (s.V v.toNat) n)).2=0 then (j4v s d.toNat v.toNat (woN (s.V v.toNat) n) n (z1e s.b (woN (s.V v.toNat) n)).1 { y with num:=s.next,d:=d,v:=v,amt:=woN (s.V v.toNat) n },0)
      else (s,(z1e s.b (woN (s.V v.toNat) n)).2)
     else (s,woE (s.V v.toNat) n)
    else (s,6)
   else (s,7)
  else (s,2)
 else (s,z0Z s d v)
def z6p(B sb:Nat)(w:World)(r:St×Int)(e:Ending)(w':World):Prop:=∃ A a ao C,e=.returned (.tuple #[J4 (stC r.1 (J1 A r.1.W.length C)),J I r.2])/\r.1.W.length<=C/\z2L w' A a ao r.1.W/\(0<r.1.W.length->a<w'.heap.size/\(a=sb∨B<=a))/\Below B w w'
theorem z1L{f:Func}{p q:Tmp}(b:f.results=#[.cell p 43,.tmp q]){B g sb:Nat}{w wq:World}{j:Array Value}(R:SAt wq g j)(k:j.size=63)(H:Below B w wq)(l:B<=g)(a:St)(A:Option Addr)(c ao C:Nat)(i:Int)(r:St×Int)(m:r=(a,i))(n:a.W.length<=C)(o:z2L wq A c ao a.W)(s:0<a.W.length->c≠g)(t:0<a.W.length->c=sb∨B<=c)(act:Act)
  (u:act.tmps.getD p undef=J2 (some ⟨g,0,none⟩)) (x:act.tmps.getD q undef=J I i) (hd:act.defers=[]) :
  bodyPost prog f (fun e w'=>z6p B sb w r e w') Exit.ret act (wq.setCells g 0 (stC a (J1 A a.W.length C)).toList):=by
 subst m;have y:=R.z0L (ds:=stC a (J1 A a.W.length C)) (by rw[k];rfl)
 have d:=o.sets s (stC a (J1 A a.W.length C)).toList 0;exact bodyPost_ret (v:=.tuple #[J4 (stC a (J1 A a.W.length C)),J I i]) (z5r b _ _ g _ _ u x y rfl) hd ⟨A,c,ao,C,rfl,n,d,fun h=>⟨d.lt h,t h⟩,z0b l _ _ _ H⟩
def YAt(w:World)(y:Nat)(x:Wt):Prop:=w.heap[y]?=some (J5 #[J I x.num,J I x.d,J I x.v,J I x.amt,J I x.hei,J I x.due,J I x.h0,J I x.h1] 63)
theorem YAt.later{w w':World}{y B:Nat}{x:Wt}(h:YAt w y x)(hb:Below B w w')(a:y<B):YAt w' y x:=(hb.block y a).trans h
theorem YAt.lt{w:World}{y:Nat}{x:Wt}(h:YAt w y x):y<w.heap.size:=(Array.getElem?_eq_some_iff.1 h).1
theorem YAt.cells{w:World}{y:Nat}{x:Wt}(h:YAt w y x):w.cell? ⟨y,0,none⟩=some (J I x.num)/\w.cell? ⟨y,1,none⟩=some (J I x.d)/\w.cell? ⟨y,2,none⟩=some (J I x.v)/\w.cell? ⟨y,3,none⟩=some (J I x.amt)/\w.cell? ⟨y,4,none⟩=some (J I x.hei)/\w.cell? ⟨y,5,none⟩=some (J I x.due)/\w.cell? ⟨y,6,none⟩=some (J I x.h0)/\w.cell? ⟨y,7,none⟩=some (J I x.h1):=by
 unfold YAt at h
 simp[World.cell?,h]
theorem SAt.y2F(w:World)(o p:Obj)(cs:Array Value):SAt (((w.alloc o).alloc p).alloc (J5 cs 43)) (w.heap.size+2) cs:=by
 have h:=SAt.new2 (w.alloc o) p cs
 rwa [show (w.alloc o).heap.size+1=w.heap.size+2 by simp]at h
theorem YAt.new(w:World)(o p:Obj)(x:Wt):YAt (((w.alloc o).alloc (J5 #[J I x.num,J I x.d,J I x.v,J I x.amt,J I x.hei,J I x.due,J I x.h0,J I x.h1] 63)).alloc p) (w.heap.size+1) x:=by
 have h:YAt ((w.alloc o).alloc (J5 #[J I x.num,J I x.d,J I x.v,J I x.amt,J I x.hei,J I x.due,J I x.h0,J I x.h1] 63)) (w.alloc o).heap.size x:=heap_alloc_new _ _;rw[show (w.alloc o).heap.size=w.heap.size+1 by simp]at h
 exact h.later (znw _ _) h.lt
theorem j3a(s:St)(ao:Option Addr)(sb so c:Nat)(d v n:Int)(y:Wt)(w:World)(hc:s.W.length<=c)(g:z2L w ao sb so s.W)(r:St×Int)(h0:z0Z s d v≠0)(i:r=(s,z0Z s d v)) :
  Calls prog 71 #[J4 (stC s (J1 ao s.W.length c)),J I d,J I v,J I n,J4 #[J I y.num,J I y.d,J I y.v,J I y.amt,J I y.hei,J I y.due,J I y.h0,J I y.h1]] w fun e w'=>z6p w.heap.size sb w r e w':=by
 have b:=((SAt.new w (stC s (J1 ao s.W.length c))).alloc (J5 #[J I y.num,J I y.d,J I y.v,J I y.amt,J I y.hei,J I y.due,J I y.h0,J I y.h1] 63)).alloc (J5 Z63 43);have RR:=SAt.y2F w (J5 (stC s (J1 ao s.W.length c)) 43) (J5 #[J I y.num,J I y.d,J I y.v,J I y.amt,J I y.hei,J I y.due,J I y.h0,J I y.h1] 63) Z63;have f:Hid (Bl w (((w.alloc (J5 (stC s (J1 ao s.W.length c)) 43)).alloc (J5 #[J I y.num,J I y.d,J I y.v,J I y.amt,J I y.hei,J I y.due,J I y.h0,J I y.h1] 63)).alloc (J5 Z63 43))):=((znw w _).alloc (by simp) _).alloc (by simp;omega) _
 have HW:=J6 g;have HR:=J6 i;have k:=J6 hc;clear g i hc
 go_enter func71,ntmps71
 go_upto_region 1 with fail
 change Code.wp prog _ _ _ (((w.alloc (J5 (stC s (J1 ao s.W.length c)) 43)).alloc (J5 #[J I y.num,J I y.d,J I y.v,J I y.amt,J I y.hei,J I y.due,J I y.h0,J I y.h1] 63)).alloc (J5 Z63 43));generalize ((w.alloc (J5 (stC s (J1 ao s.W.length c)) 43)).alloc (J5 #[J I y.num,J I y.d,J I y.v,J I y.amt,J I y.hei,J I y.due,J I y.h0,J I y.h1] 63)).alloc (J5 Z63 43)=w0 at *
 go_upto_region 2 with (go_at_call 98;refine (z2Q s ao sb so c w.heap.size d v _ b (by exact HW.out.over f.out)).mono ?_;rintro e w1⟨rfl,h1⟩)
 have a:=J6 (zbt f.out h1);have l:=b.later h1 b.lt;have j:=RR.later h1 RR.lt;clear b RR h1 f
 go_upto_region 3 with fail
 apply wp_region_lit;refine wpList_load_mid rfl 43 _ rfl _ 0 rfl _ _ l.range underlying43 rfl (by rw[z0B];rfl) ?_
 refine z1U rfl _ rfl ?_;refine wpList_store_mid rfl 43 _ _ rfl _ 0 (stC s (J1 ao s.W.length c)) rfl rfl (j.there 0 _ (by rw[z0v,z0f];omega)) (by rw[z0B];rfl) (z0E _ _ _ _) ?_
 go_wp2;exact z1L results71 j rfl a.out (by omega) s ao sb so c _ r HR.out k.out (HW.out.over a.out) (fun h=>by have:=HW.out.lt h;omega) (fun _=>.inl rfl) _ rfl rfl rfl
end
namespace Df
open Go.RowKit
def QAt(w:World)(b:Nat)(P:Nat->Int):Prop:=w.heap[b]?=some (J5 #[J I (P 0),J I (P 1),J I (P 2),J I (P 3),J I (P 4),J I (P 5)] 39)
section
variable {w w':World} {b B:Nat} {P:Nat->Int}
theorem QAt.later(h:QAt w b P)(hb:Below B w w')(a:b<B):QAt w' b P:=(hb.block b a).trans h
theorem QAt.new(w:World)(P:Nat->Int):QAt (w.alloc (J5 #[J I (P 0),J I (P 1),J I (P 2),J I (P 3),J I (P 4),J I (P 5)] 39)) w.heap.size P:=heap_alloc_new _ _
theorem QAt.lt(h:QAt w b P):b<w.heap.size:=(Array.getElem?_eq_some_iff.1 h).1
theorem QAt.alloc(h:QAt w b P)(o:Obj):QAt (w.alloc o) b P:=(Below.heap_alloc _ _ _ h.lt).trans h
theorem QAt.facts(h:QAt w b P):(w.cell? ⟨b,0,none⟩=some (J I (P 0))/\w.cell? ⟨b,1,none⟩=some (J I (P 1))/\w.cell? ⟨b,2,none⟩=some (J I (P 2))/\w.cell? ⟨b,3,none⟩=some (J I (P 3))/\w.cell? ⟨b,4,none⟩=some (J I (P 4))/\w.cell? ⟨b,5,none⟩=some (J I (P 5)))/\(∀ k,w.frozen? ⟨b,k,none⟩=false):=by
 unfold QAt at h
 simp[World.cell?,World.frozen?,h]
theorem QAt.one(h:QAt w b P){k:Nat}(a:k<6):w.cell? ⟨b,k,none⟩=some (J I (P k)):=by
 obtain⟨⟨h0,h1,h2,h3,c,d⟩,-⟩:=h.facts
 rcases (show k=0∨k=1∨k=2∨k=3∨k=4∨k=5 by omega) with rfl | rfl | rfl | rfl | rfl | rfl <;> assumption
theorem QAt.put(h:QAt w b P){k:Nat}(a:k<6)(n:Int):QAt (w.setCell ⟨b,k,none⟩ (J I n)) b (z8z P ((k:Int),n)):=by
 unfold QAt at *;simp only[z4c a]
 rcases (show k=0∨k=1∨k=2∨k=3∨k=4∨k=5 by omega) with rfl | rfl | rfl | rfl | rfl | rfl <;> simp[World.setCell,Array.getElem?_modify,h]
end
theorem z4f(w:World)(b k:Nat)(u:Value)(o:Obj):w.grownBy ((w.setCell ⟨b,k,none⟩ u).alloc o).drew (some b):=
 have h:=(Below.refl 0 w).setCell (p:=⟨b,k,none⟩) (Nat.zero_le _) u
 ⟨h.os,h.tape,h.output,by show w.heap.size<=((w.setCell ⟨b,k,none⟩ u).alloc o).heap.size;simp,fun j c a=>(Below.heap_alloc (w.setCell ⟨b,k,none⟩ u) o j (by simpa using c)).trans (Below.heap_setCell _ _ _ _ (fun e=>a (by rw[e])))⟩
theorem z5E{w w1:World}{b:Nat}(h:w.grownBy w1 (some b)){B:Nat}(a:B<=b)(c:B<=w.heap.size):Below B w w1:=(Below.refl B w).grown h c (fun k d=>by cases d;exact a)
theorem z8r(b:Nat)(v n:Int)(P:Nat->Int)(w:World)(h:QAt w b P) :
  Calls prog 186 #[J2 (some ⟨b,0,none⟩),J4 #[J I v,J I n]] w fun e w'=>e=.returned (.tuple #[])/\QAt w' b (z8z P (v,n))/\w.grownBy w' (some b):=by
 have d:=z8s v;have h1:=h.alloc (J5 #[J I v,J I n] 65);have a:=World.grownBy_alloc w (J5 #[J I v,J I n] 65) (some b);have i:=h.lt
 by_cases c:0<=v/\v<6
 ·obtain⟨k,rfl⟩:=Int.eq_ofNat_of_zero_le c.1;have f:k<6:=by omega
  have j:(k:Int)<6:=by omega
  rw[show isV (k:Int)=true from z3p.2 c]at d;have hc:=h.one f;have l:=h.facts.2 k;have g:=J6 (show _/\_ from⟨(h.put f n).alloc (J5 #[J I (k:Int),J I n] 65),z4f w b k (J I n) (J5 #[J I (k:Int),J I n] 65)⟩);clear h1 a c h
  go_enter func186,ntmps186
  go_upto_region 2 with (go_at_call 106;refine (d _).mono ?_;rintro e w1⟨rfl,rfl⟩)
  go_region
  all_goals go_end0
  all_goals exact⟨rfl,g.out.1,g.out.2⟩
 ·rw[show isV v=false by simpa [isV] using c]at d
  have hp:z8z P (v,n)=P:=by unfold z8z;rw[if_neg c]
  rw[hp]
  go_enter func186,ntmps186
  go_wp2_with (go_at_call 106;refine (d _).mono ?_;rintro e w1⟨rfl,rfl⟩)
  go_end0;exact⟨rfl,h1,a⟩
structure PIn(w:World)(l:List Pw)(ao:Option Addr)(b off:Nat):Prop where
 len:l.length<=8796093022202
 adr:0<l.length->ao=some ⟨b,off,none⟩
 cells:∀ i,i<l.length->w.cell? ⟨b,off+i * 2,none⟩=some (J I (l.getD i (0,0)).1)/\w.cell? ⟨b,off+i * 2+1,none⟩=some (J I (l.getD i (0,0)).2)
theorem PIn.ltB{w:World}{l:List Pw}{ao:Option Addr}{b off:Nat}(h:PIn w l ao b off)(h0:0<l.length):b<w.heap.size:=World.block_lt_of_cell? w _ (h.cells 0 h0).1
theorem PIn.later{B:Nat}{w w':World}{l:List Pw}{ao:Option Addr}{b off:Nat}(h:PIn w l ao b off)(hb:Below B w w')(a:0<l.length->b<B):PIn w' l ao b off:=
 ⟨h.len,h.adr,fun i c=>⟨(hb.cell (p:=⟨b,off+i * 2,none⟩) (a (by omega))).trans (h.cells i c).1,(hb.cell (p:=⟨b,off+i * 2+1,none⟩) (a (by omega))).trans (h.cells i c).2⟩⟩
theorem PIn.over{w w':World}{l:List Pw}{ao:Option Addr}{b off:Nat}(h:PIn w l ao b off)(hb:Bl w w'):PIn w' l ao b off:=h.later hb h.ltB
def z3V(w:World)(b:Nat)(v0 v1 v2 v3 a c:Value):World:=(((((w.setCell ⟨b,0,none⟩ v0).setCell ⟨b,1,none⟩ v1).setCell ⟨b,2,none⟩ v2).setCell ⟨b,3,none⟩ v3).setCell ⟨b,4,none⟩ a).setCell ⟨b,5,none⟩ c
theorem j6j{w:World}{b:Nat}{R:Nat->Int}(h:QAt w b R)(P:Nat->Int):QAt (z3V w b (J I (P 0)) (J I (P 1)) (J I (P 2)) (J I (P 3)) (J I (P 4)) (J I (P 5))) b P:=by
 unfold QAt z3V at *
 simp[World.setCell,Array.getElem?_modify,h]
theorem z3X{B:Nat}{w0 w:World}{b:Nat}(v0 v1 v2 v3 c d:Value)(h:Below B w0 w)(a:B<=b):Below B w0 (z3V w b v0 v1 v2 v3 c d):=(((((h.setCell a _).setCell a _).setCell a _).setCell a _).setCell a _).setCell a _
theorem q1o(l:List Pw)(ao:Option Addr)(c b off:Nat)(w:World)(g:PIn w l ao b off) :
  Calls prog 156 #[J1 ao l.length c] w fun e w'=>e=.returned (J4 #[J I (z1C l 0),J I (z1C l 1),J I (z1C l 2),J I (z1C l 3),J I (z1C l 4),J I (z1C l 5)])/\Bl w w':=by
 have r:=g.len;have h:=J6 g;have m:=(QAt.new w z2A).alloc (J5 #[J I 0,J I 0,J I 0,J I 0,J I 0,J I 0] 39);have d:=QAt.new (w.alloc (J5 #[J I 0,J I 0,J I 0,J I 0,J I 0,J I 0] 39)) z2A;rw[show (w.alloc (J5 #[J I 0,J I 0,J I 0,J I 0,J I 0,J I 0] 39)).heap.size=w.heap.size+1 by simp]at d
 have s:Bl w ((w.alloc (J5 #[J I 0,J I 0,J I 0,J I 0,J I 0,J I 0] 39)).alloc (J5 #[J I 0,J I 0,J I 0,J I 0,J I 0,J I 0] 39)):=(znw w _).alloc (by simp) _
 dsimp only [z2A]at m d;clear g
 go_enter func156,ntmps156
 go_upto_region 2 with fail
 generalize ((w.alloc (J5 #[J I 0,J I 0,J I 0,J I 0,J I 0,J I 0] 39)).alloc (J5 #[J I 0,J I 0,J I 0,J I 0,J I 0,J I 0] 39))=w0 at *;have f:=J6 (show _/\_/\_ from⟨m,d,s⟩);clear m d s
 go_upto_region 3 with fail
 go_loopw [4] (fun i wl=>∃ k:Nat,k<=l.length/\i=J I ((k:Int) - 1)/\Hid (QAt wl w.heap.size (fun _=>0)/\QAt wl (w.heap.size+1) (z1C (l.drop k))/\Bl w wl)) (fun i _=>(intOf i+1).toNat)
 case atStart=>exact⟨l.length,Nat.le_refl _,rfl,f.out.1,by rw[List.drop_length];exact f.out.2.1,f.out.2.2⟩
 case round =>
  obtain⟨k,Q,rfl,HR⟩:=hrel;clear f
  by_cases h0:0<k
  ·obtain⟨j,rfl⟩:∃ j,k=j+1:=⟨k - 1,by omega⟩
   have t:j<l.length:=by omega
   have B:(j:Int)<(l.length:Int):=by omega
   obtain⟨c0,c1⟩:=(h.out.later HR.out.2.2 h.out.ltB).cells j t;have C:=J6 (q7e l j t);have o:=h.out.adr (by omega)
   subst o;generalize l.getD j (0,0)=x at *;obtain⟨v,n⟩:=x;dsimp only at c0 c1;have D:(((j+1:Nat):Int) - 1)=(j:Int):=by omega
   rw[D]
   go_wp2_with (go_at_call 186;refine (z8r (w.heap.size+1) v n _ _ HR.out.2.1).mono ?_;rintro e w1⟨rfl,u,y⟩;have p:=J6 u;have z:=J6 y;clear u y)
   refine⟨⟨j,by omega,rfl,(z.out.block _ HR.out.1.lt (by simp)).trans HR.out.1,by rw[C.out];exact p.out,HR.out.2.2.trans (z5E z.out (by omega) HR.out.2.2.size)⟩,by simp[intOf]⟩
  ·obtain rfl:k=0:=by omega
   have A:z1C (l.drop 0)=z1C l:=by rw[List.drop_zero]
   rw[A]at HR;obtain⟨F,a⟩:∃ F,z1C l=F:=⟨_,rfl⟩;rw[a]at HR;have q:=J6 a;clear A a;obtain⟨⟨c0,c1,c2,c3,R,S⟩,-⟩:=HR.out.2.1.facts;obtain⟨⟨T,U,V,W,X,Y⟩,E⟩:=HR.out.1.facts;go_wp2;have p:=j6j HR.out.1 F;have G:=z3X (b:=w.heap.size) (J I (F 0)) (J I (F 1)) (J I (F 2)) (J I (F 3)) (J I (F 4)) (J I (F 5)) HR.out.2.2 (Nat.le_refl _)
   show bodyPost prog f156 _ Exit.ret _ (z3V wr w.heap.size (J I (F 0)) (J I (F 1)) (J I (F 2)) (J I (F 3)) (J I (F 4)) (J I (F 5)))
   generalize z3V wr w.heap.size (J I (F 0)) (J I (F 1)) (J I (F 2)) (J I (F 3)) (J I (F 4)) (J I (F 5))=w9 at *;obtain⟨⟨H,K,L,M,N,P⟩,-⟩:=p.facts;exact bodyPost_ret (v:=J4 #[J I (F 0),J I (F 1),J I (F 2),J I (F 3),J I (F 4),J I (F 5)]) (by simp[results,results156,go_sem,H,K,L,M,N,P]) rfl ⟨by rw[q.out],G⟩
end Df
end Go.Proofs.YtddlhnoedldidaaGreat
