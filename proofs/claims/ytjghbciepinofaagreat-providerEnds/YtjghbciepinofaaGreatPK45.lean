/- Parts of the proof. -/
import Derived.Test.YtjghbciepinofaaGreatPL
import Derived.WalkKit
import Derived.WalkSpells
import Derived.WalkLawsBesides
set_option maxRecDepth 100000
set_option maxHeartbeats 16000000
namespace Go.Proofs.YtjghbciepinofaaGreat
open Go.Proofs.Tryz
open Value renaming int->J,slice->J1,pointer->J2,bool->J3,agg->J4
open IntKind renaming i64->I
open Obj renaming cells->J5
namespace Cd
open Go.RowKit
def z0F(w:World)(b off:Nat)(l:List Int):Prop:=∀ i,i<l.length->w.cell? ⟨b,off+i,none⟩=some (J I (l.getD i 0))
def z2I(w:World)(b off:Nat)(l:List (Int×Int)):Prop:=∀ i,i<l.length->w.cell? ⟨b,off+i * 2,none⟩=some (J I (l.getD i (0,0)).1)/\w.cell? ⟨b,off+i * 2+1,none⟩=some (J I (l.getD i (0,0)).2)
theorem z0F.later{w w':World}{b off:Nat}{l:List Int}(h:z0F w b off l)(c:Bl w w'):z0F w' b off l:=fun i a =>
  (c.cell (p:=⟨b,off+i,none⟩) (World.block_lt_of_cell? w _ (h i a))).trans (h i a)
theorem z2I.later{w w':World}{b off:Nat}{l:List (Int×Int)}(h:z2I w b off l)(c:Bl w w'):z2I w' b off l:=fun i a =>
  ⟨(c.cell (p:=⟨b,off+i * 2,none⟩) (World.block_lt_of_cell? w _ (h i a).1)).trans (h i a).1,(c.cell (p:=⟨b,off+i * 2+1,none⟩) (World.block_lt_of_cell? w _ (h i a).2)).trans (h i a).2⟩
theorem z0m(w:World)(o:Obj):Bl w (w.alloc o):=znw _ o
theorem z7t{W w1:World}(a:Bl W w1):(∀ b o,b<W.heap.size->w1.cell? ⟨b,o,none⟩=W.cell? ⟨b,o,none⟩)/\(∀ b o,b<W.heap.size->w1.frozen? ⟨b,o,none⟩=W.frozen? ⟨b,o,none⟩):=
  ⟨fun b o h=>a.cell (p:=⟨b,o,none⟩) h,fun b o h=>a.frozen (p:=⟨b,o,none⟩) h⟩
theorem z1A{w w':World}{o:Obj}(h:Below (w.alloc o).heap.size (w.alloc o) w'):Bl w w':=
  (z0m w o).trans (h.mono (by simp))
theorem z0N{w w1 a:World}(h:Bl w w1)(k:Bl w1 a):Bl w a:=zbt h k
def isV(v:Int):Bool:=decide (0<=v/\v<6)
theorem z7w{v:Int}(h:0<=v)(h2:v<6):isV v=true:=by simp[isV];omega
theorem z4A{v:Int}(h:¬ (0<=v/\v<6)):isV v=false:=by simp[isV];omega
theorem z2U(v:Int)(w:World) :
    Calls prog 59 #[J I v] w fun e w'=>e=.returned (J3 (isV v))/\w=w':=by
  by_cases h:0<=v
  · by_cases h2:v<6
    · rw[z7w h h2]
      go_enter func59,ntmps59
      go_wp2;go_ret;exact⟨rfl,rfl⟩
    · rw[z4A (by omega)]
      go_enter func59,ntmps59
      go_wp2;go_ret;exact⟨rfl,rfl⟩
  · rw[z4A (by omega)]
    go_enter func59,ntmps59
    go_wp2;go_ret;exact⟨rfl,rfl⟩
def z0k(last:Int):List Int->Bool
  | []=>true
  | v :: t=>decide (last<v) && isV v && z0k v t
theorem z6O(l:List Int)(k:Nat)(h:k<l.length)(last:Int) :
    z0k last (l.drop k)=(decide (last<l.getD k 0) && isV (l.getD k 0) && z0k (l.getD k 0) (l.drop (k+1))):=by
  rw[List.drop_eq_getElem_cons h,z0k]
  simp[List.getD,h]
theorem q3Y(l:List Int)(a:Option Addr)(c b off:Nat)(w:World)(d:l.length<=maxLen)(j:0<l.length->a=some ⟨b,off,none⟩)
    (m:z0F w b off l) :
    Calls prog 62 #[J1 a l.length c] w fun e w'=>e=.returned (J3 (z0k (-1) l))/\w=w':=by
  unfold maxLen at d;have o:Hid (∀ i,i<l.length->w.cell? ⟨b,off+i,none⟩=some (J I (l.getD i 0))):=m;have p:Hid (0<l.length->a=some ⟨b,off,none⟩):=j;clear m j
  go_enter func62,ntmps62
  go_wp2
  go_loop [3,8] (fun last i=>∃ (k:Nat) (x:Int),k<=l.length/\i=J I k/\last=J I x/\Hid (z0k (-1) l=z0k x (l.drop k))) (fun _ i=>l.length - (intOf i).toNat)
  case atStart=>exact⟨0,-1,Nat.zero_le _,rfl,rfl,by simp[Hid]⟩
  case round =>
    obtain⟨k,x,q,rfl,rfl,g⟩:=hrel
    by_cases f:k<l.length
    · have hcell:=o.out k f
      have hd:=z6O l k f x;obtain⟨y,n⟩:∃ y,l.getD k 0=y:=⟨_,rfl⟩;rw[n]at hcell hd;have e:=p.out (by omega)
      subst e;have h:Hid (z0k x (l.drop k)=(decide (x<y) && isV y && z0k y (l.drop (k+1)))):=hd;clear hd n
      by_cases h1:y<=x
      · go_wp2_with (go_at_call 59;refine (z2U _ _).mono ?_;rintro e w'⟨rfl,rfl⟩)
        go_ret;refine⟨?_,rfl⟩;rw[g.out,h.out];have:decide (x<y)=false:=by simp;omega
        simp[this]
      · by_cases h2:isV y=true
        · go_wp2_with (go_at_call 59;refine (z2U _ _).mono ?_;rintro e w'⟨rfl,rfl⟩)
          go_round
          case rel =>
            refine⟨k+1,y,by omega,by go_num,rfl,?_⟩
            have:decide (x<y)=true:=by simp;omega
            show _=_
            rw[g.out,h.out,this,h2];simp
          case measure=>simp[intOf];omega
        · have h2:isV y=false:=by simpa using h2
          go_wp2_with (go_at_call 59;refine (z2U _ _).mono ?_;rintro e w'⟨rfl,rfl⟩)
          go_ret;refine⟨?_,rfl⟩;rw[g.out,h.out,h2];simp
    · go_wp2
      go_ret;refine⟨?_,rfl⟩;rw[g.out,List.drop_of_length_le (by omega)];rfl
def z0e(last:Int):List (Int×Int)->Bool
  | []=>true
  | p :: t=>decide (last<p.1) && isV p.1 && decide (0<=p.2) && decide (p.2<=1125899906842624) && z0e p.1 t
theorem z5R(l:List (Int×Int))(k:Nat)(h:k<l.length)(last:Int) :
    z0e last (l.drop k)=(decide (last<(l.getD k (0,0)).1) && isV (l.getD k (0,0)).1 && decide (0<=(l.getD k (0,0)).2) && decide ((l.getD k (0,0)).2<=1125899906842624) && z0e (l.getD k (0,0)).1 (l.drop (k+1))):=by
  rw[List.drop_eq_getElem_cons h,z0e]
  simp[List.getD,h]
theorem q0Y(l:List (Int×Int))(a:Option Addr)(c b off:Nat)(w:World)(n:l.length<=maxLen)(s:0<l.length->a=some ⟨b,off,none⟩)
    (t:z2I w b off l) :
    Calls prog 61 #[J1 a l.length c] w fun e w'=>e=.returned (J3 (z0e (-1) l))/\Bl w w':=by
  unfold maxLen at n;have B:Hid (∀ i,i<l.length->w.cell? ⟨b,off+i * 2,none⟩=some (J I (l.getD i (0,0)).1)/\w.cell? ⟨b,off+i * 2+1,none⟩=some (J I (l.getD i (0,0)).2)):=t;have C:Hid (0<l.length->a=some ⟨b,off,none⟩):=s;clear t s
  go_enter func61,ntmps61
  go_wp2
  go_loopw [3,8] (fun last i wl=>∃ (k:Nat) (x:Int),k<=l.length/\i=J I k/\last=J I x/\Hid (z0e (-1) l=z0e x (l.drop k))/\Hid (Bl w wl)) (fun _ i _=>l.length - (intOf i).toNat)
  case atStart=>exact⟨0,-1,Nat.zero_le _,rfl,rfl,by simp[Hid],Below.refl _ _⟩
  case round =>
    obtain⟨k,x,G,rfl,rfl,m,g⟩:=hrel
    by_cases o:k<l.length
    · have hcell:=B.out k o
      have hd:=z5R l k o x;obtain⟨y,u⟩:∃ y,l.getD k (0,0)=y:=⟨_,rfl⟩;rw[u]at hcell hd;obtain⟨y,z⟩:=y;have e:=C.out (by omega)
      subst e;have q:Hid (z0e x (l.drop k)=(decide (x<y) && isV y && decide (0<=z) && decide (z<=1125899906842624) && z0e y (l.drop (k+1)))):=hd;clear hd u;obtain⟨h,j⟩:=hcell;dsimp only at h j;have r:b<w.heap.size:=World.block_lt_of_cell? w _ h;have v:wr.cell? ⟨b,off+k * 2,none⟩=some (J I y):=(g.out.cell (p:=⟨b,off+k * 2,none⟩) r).trans h;have A:wr.cell? ⟨b,off+k * 2+1,none⟩=some (J I z):=(g.out.cell (p:=⟨b,off+k * 2+1,none⟩) r).trans j;clear h j;have d:=g.out.size
      by_cases h1:y<=x
      · have f:decide (x<y)=false:=by simp;omega
        have E:Hid (z0e x (l.drop k)=false):=by show _=_;rw[q.out,f];simp
        clear f
        go_wp2_with (go_at_call 59;refine (z2U _ _).mono ?_;rintro e w'⟨rfl,rfl⟩)
        go_ret;refine⟨?_,?_⟩
        · rw[m.out,E.out];simp
        · exact g.out.alloc d _
      by_cases h2:isV y=true
      · by_cases h3:z<0
        · have f:decide (0<=z)=false:=by simp;omega
          have E:Hid (z0e x (l.drop k)=false):=by show _=_;rw[q.out,f];simp
          clear f
          go_wp2_with (go_at_call 59;refine (z2U _ _).mono ?_;rintro e w'⟨rfl,rfl⟩)
          go_ret;refine⟨?_,?_⟩
          · rw[m.out,E.out];simp
          · exact g.out.alloc d _
        by_cases H:1125899906842624<z
        · have f:decide (z<=1125899906842624)=false:=by simp;omega
          have E:Hid (z0e x (l.drop k)=false):=by show _=_;rw[q.out,f];simp
          clear f
          go_wp2_with (go_at_call 59;refine (z2U _ _).mono ?_;rintro e w'⟨rfl,rfl⟩)
          go_ret;refine⟨?_,?_⟩
          · rw[m.out,E.out];simp
          · exact g.out.alloc d _
        · have E:Hid (z0e x (l.drop k)=z0e y (l.drop (k+1))):=by
            show _=_
            have D:decide (x<y)=true:=by simp;omega
            have f:decide (0<=z)=true:=by simp;omega
            have F:decide (z<=1125899906842624)=true:=by simp;omega
            rw[q.out,D,f,F,h2];simp
          go_wp2_with (go_at_call 59;refine (z2U _ _).mono ?_;rintro e w'⟨rfl,rfl⟩)
          go_roundw
          case rel=>exact⟨k+1,y,by omega,by go_num,rfl,m.out.trans E.out,g.out.alloc d _⟩
          case measure=>simp[intOf];omega
      · have h2:isV y=false:=by simpa using h2
        have E:Hid (z0e x (l.drop k)=false):=by show _=_;rw[q.out,h2];simp
        go_wp2_with (go_at_call 59;refine (z2U _ _).mono ?_;rintro e w'⟨rfl,rfl⟩)
        go_ret;refine⟨?_,?_⟩
        · rw[m.out,E.out];simp
        · exact g.out.alloc d _
    · go_wp2
      go_ret;refine⟨?_,g.out⟩;rw[m.out,List.drop_of_length_le (by omega)];rfl
def z3N(k:Int):Bool:=k == 3 || k == 4
theorem z7c{k:Int}(h:k=3∨k=4):z3N k=true:=by simp[z3N];omega
theorem q0t{k:Int}(h:k≠3)(h2:k≠4):z3N k=false:=by simp[z3N];omega
theorem q2A(k i v n:Int)(s d:Value)(w:World) :
    Calls prog 58 #[J4 #[J I k,J I i,J I v,J I n,s,d]] w fun e w'=>e=.returned (J3 (z3N k))/\Bl w w':=by
  by_cases h:k=3
  · subst h
    rw[z7c (by omega)]
    go_enter func58,ntmps58
    go_wp2;go_ret;exact⟨rfl,znw _ _⟩
  have h3:(k == 3)=false:=by simpa using h
  by_cases a:k=4
  · subst a
    rw[z7c (by omega)]
    go_enter func58,ntmps58
    go_wp2;go_ret;exact⟨rfl,znw _ _⟩
  have b:(k == 4)=false:=by simpa using a
  rw[q0t h a];clear h a
  go_enter func58,ntmps58
  go_wp2;go_ret;exact⟨rfl,znw _ _⟩
def z4x(k v n:Int)(a b:Nat):Bool:=(!(z3N k) && (v != 0 || n != 0)) || (k != 1 && ((a:Int) != 0 || (b:Int) != 0))
theorem q1c(k v n:Int)(a b:Nat) :
    (z3N k=false/\(v != 0)=true/\z4x k v n a b=true)∨(z3N k=false/\(v != 0)=false/\(n != 0)=true/\z4x k v n a b=true) ∨
    (((z3N k=false/\(v != 0)=false/\(n != 0)=false)∨z3N k=true) /\
      ((k != 1)=false/\z4x k v n a b=false∨(k != 1)=true/\((a:Int) != 0)=true/\z4x k v n a b=true ∨
       (k != 1)=true/\((a:Int) != 0)=false/\((b:Int) != 0)=true/\z4x k v n a b=true ∨
       (k != 1)=true/\((a:Int) != 0)=false/\((b:Int) != 0)=false/\z4x k v n a b=false)):=by
  unfold z4x;cases z3N k <;> cases (v != 0) <;> cases (n != 0) <;> cases (k != 1) <;> cases ((a:Int) != 0) <;> cases ((b:Int) != 0) <;> simp
theorem q8k(k i v n:Int)(sa da:Option Addr)(a cs b cd:Nat)(w:World) :
    Calls prog 60 #[J4 #[J I k,J I i,J I v,J I n,J1 sa a cs,J1 da b cd]] w fun e w'=>e=.returned (J3 (z4x k v n a b))/\Bl w w':=by
  have d:=q1c k v n a b;generalize z4x k v n a b=F at *
  rcases d with⟨hacc,hv,rfl⟩ | ⟨hacc,hv,hn,rfl⟩ | ⟨⟨hacc,hv,hn⟩ | hacc,⟨hk,rfl⟩ | ⟨hk,hs,rfl⟩ | ⟨hk,hs,hd,rfl⟩ | ⟨hk,hs,hd,rfl⟩⟩
  all_goals go_enter func60,ntmps60
  all_goals go_wp2_with (go_at_call 58;refine (q2A _ _ _ _ _ _ _).mono ?_;rintro e w'⟨rfl,c⟩;obtain⟨g,h⟩:=z7t c;have j:w.heap.size+1<=w'.heap.size:=(by have:=c.size;simp at this;omega);have f:Hid (Below _ _ w'):=c;clear c)
  all_goals go_ret
  all_goals exact⟨rfl,z1A f.out⟩
def z0o(k i v n:Int)(S:List (Int×Int))(D:List Int):Int:=
  if k<1∨4<k then 3 else if i<1∨1099511627776<i then 2
  else if z3N k=true/\(isV v=false∨n<1∨1125899906842624<n) then 2
  else if z4x k v n S.length D.length=true then 1
  else if z0e (-1) S=false∨z0k (-1) D=false then 2 else 0
theorem z3P(k i v n:Int)(S:List (Int×Int))(D:List Int) :
    (k<1/\z0o k i v n S D=3)∨(1<=k/\4<k/\z0o k i v n S D=3) ∨
    (1<=k/\k<=4 /\
      ((i<1/\z0o k i v n S D=2)∨(1<=i/\1099511627776<i/\z0o k i v n S D=2) ∨
       (1<=i/\i<=1099511627776 /\
        ((z3N k=true/\isV v=false/\z0o k i v n S D=2)∨(z3N k=true/\isV v=true/\n<1/\z0o k i v n S D=2) ∨
         (z3N k=true/\isV v=true/\1<=n/\1125899906842624<n/\z0o k i v n S D=2) ∨
         (((z3N k=true/\isV v=true/\1<=n/\n<=1125899906842624)∨z3N k=false) /\
          ((z4x k v n S.length D.length=true/\z0o k i v n S D=1) ∨
           (z4x k v n S.length D.length=false/\z0e (-1) S=false/\z0o k i v n S D=2) ∨
           (z4x k v n S.length D.length=false/\z0e (-1) S=true/\z0k (-1) D=false/\z0o k i v n S D=2) ∨
           (z4x k v n S.length D.length=false/\z0e (-1) S=true/\z0k (-1) D=true/\z0o k i v n S D=0))))))):=by
  unfold z0o;generalize z4x k v n S.length D.length=f;generalize z0e (-1) S=p;generalize z0k (-1) D=r;generalize z3N k=a;generalize isV v=x
  rcases Int.lt_or_le k 1 with h | h
  · left;exact⟨h,by rw[if_pos (Or.inl h)]⟩
  right
  rcases Int.lt_or_le 4 k with d | d
  · left;exact⟨h,d,by rw[if_pos (Or.inr d)]⟩
  right
  rw[if_neg (by omega)]
  refine⟨h,d,?_⟩
  rcases Int.lt_or_le i 1 with c | c
  · left;exact⟨c,by rw[if_pos (Or.inl c)]⟩
  right
  rcases Int.lt_or_le 1099511627776 i with b | b
  · left;exact⟨c,b,by rw[if_pos (Or.inr b)]⟩
  right
  rw[if_neg (by omega)]
  refine⟨c,b,?_⟩
  rcases Int.lt_or_le n 1 with g | g
  all_goals rcases Int.lt_or_le 1125899906842624 n with e | e
  all_goals first | (exfalso;omega) | skip
  all_goals cases a <;> cases x <;> cases f <;> cases p <;> cases r <;> simp_all
  all_goals omega
theorem z0u(k i v n:Int)(S:List (Int×Int))(D:List Int)(sa da:Option Addr)(cs cd sb so db dO:Nat)(w:World)
    (hls:S.length<=maxLen) (hld:D.length<=maxLen) (hsa:0<S.length->sa=some ⟨sb,so,none⟩) (hda:0<D.length->da=some ⟨db,dO,none⟩) (PS:z2I w sb so S) (PD:z0F w db dO D) :
    Calls prog 21 #[J4 #[J I k,J I i,J I v,J I n,J1 sa S.length cs,J1 da D.length cd]] w fun e w'=>e=.returned (J I (z0o k i v n S D))/\Bl w w':=by
  have j:Hid (S.length<=maxLen):=hls;have l:Hid (D.length<=maxLen):=hld;have m:Hid (0<S.length->sa=some ⟨sb,so,none⟩):=hsa;have o:Hid (0<D.length->da=some ⟨db,dO,none⟩):=hda;clear hls hld hsa hda;have p:=z3P k i v n S D;generalize z0o k i v n S D=G at *
  rcases p with⟨h1,rfl⟩ | ⟨h1,h2,rfl⟩ | ⟨h1,h2,⟨h3,rfl⟩ | ⟨h3,h4,rfl⟩ | ⟨h3,h4,⟨h5,h6,rfl⟩ | ⟨h5,h6,h7,rfl⟩ | ⟨h5,h6,h7,h8,rfl⟩ | ⟨⟨h5,h6,h7,h8⟩ | h5,⟨h9,rfl⟩ | ⟨h9,h10,rfl⟩ | ⟨h9,h10,h11,rfl⟩ | ⟨h9,h10,h11,rfl⟩⟩⟩⟩
  all_goals go_enter func21,ntmps21
  all_goals go_wp2_with (first
    | (go_at_call 58;refine (q2A _ _ _ _ _ _ _).mono ?_;rintro e w1⟨rfl,a⟩
       have d:=(PS.later (z0m _ _)).later a;have f:=(PD.later (z0m _ _)).later a;obtain⟨E,F⟩:=z7t a;have x:w.heap.size<w1.heap.size:=(by have:=a.size;simp at this;omega)
       have b:Hid (Bl w w1):=z1A a
       clear a PS PD)
    | (go_at_call 59;refine (z2U _ _).mono ?_;rintro e w'⟨rfl,rfl⟩)
    | (go_at_call 60;refine (q8k _ _ _ _ _ _ _ _ _ _ _).mono ?_;rintro e t⟨rfl,a⟩
       have g:=d.later a;have h:=f.later a;obtain⟨y,z⟩:=z7t a;have q:w.heap.size<t.heap.size:=Nat.lt_of_lt_of_le x a.size;have c:Hid (Bl w t):=z0N b.out a
       clear a d f b)
    | (go_at_call 61;refine (q0Y S sa cs sb so _ j.out m.out g).mono ?_;rintro e u⟨rfl,a⟩
       have r:=h.later a;obtain⟨A,B⟩:=z7t a;have C:w.heap.size<u.heap.size:=Nat.lt_of_lt_of_le q a.size;have s:Hid (Bl w u):=z0N c.out a
       clear a g h c)
    | (go_at_call 62;refine (q3Y D da cd db dO _ l.out o.out r).mono ?_;rintro e w'⟨rfl,rfl⟩))
  all_goals go_ret
  all_goals refine⟨rfl,?_⟩
  all_goals first | exact s.out | exact c.out | exact b.out | exact z0m _ _
end Cd
end Go.Proofs.YtjghbciepinofaaGreat
