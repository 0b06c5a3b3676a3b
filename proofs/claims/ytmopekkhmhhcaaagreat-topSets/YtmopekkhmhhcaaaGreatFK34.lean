/- Parts of the proof. -/
import Derived.Test.YtmopekkhmhhcaaaGreatFL
import Derived.WalkKit
import Derived.WalkSpells
import Derived.WalkLawsBesides
import Derived.Below
import Derived.BigQuiet
import Derived.Deep.QuietTactic
import Derived.OrdersHeld
import Derived.RegionTactic
import Derived.Deep.MidRow
import Derived.WalkSmall
import Derived.Maps.AppendAt
import Derived.Laws.MathBits
import Derived.Laws.Bits64b
import Derived.ProofKit
set_option maxRecDepth 100000
set_option maxHeartbeats 16000000
namespace Go.Proofs.YtmopekkhmhhcaaaGreat
open Go.Proofs.Tryz
namespace Cd
open Go.RowKit
def z1b(w:World)(b off:Nat)(l:List Int):Prop:=∀ i,i<l.length->w.cell? ⟨b,off+i,none⟩=some (.int .i64 (l.getD i 0))
def z5z(w:World)(b off:Nat)(l:List (Int×Int)):Prop:=∀ i,i<l.length->w.cell? ⟨b,off+i * 2,none⟩=some (.int .i64 (l.getD i (0,0)).1)/\w.cell? ⟨b,off+i * 2+1,none⟩=some (.int .i64 (l.getD i (0,0)).2)
theorem z1b.later{w w':World}{b off:Nat}{l:List Int}(h:z1b w b off l)(hb:Below w.heap.size w w'):z1b w' b off l:=fun i hi =>
  (hb.cell (p:=⟨b,off+i,none⟩) (World.block_lt_of_cell? w _ (h i hi))).trans (h i hi)
theorem z5z.later{w w':World}{b off:Nat}{l:List (Int×Int)}(h:z5z w b off l)(hb:Below w.heap.size w w'):z5z w' b off l:=fun i hi =>
  ⟨(hb.cell (p:=⟨b,off+i * 2,none⟩) (World.block_lt_of_cell? w _ (h i hi).1)).trans (h i hi).1,(hb.cell (p:=⟨b,off+i * 2+1,none⟩) (World.block_lt_of_cell? w _ (h i hi).2)).trans (h i hi).2⟩
theorem z0v(w:World)(o:Obj):Below w.heap.size w (w.alloc o):=znw _ o
theorem q5P{W w1:World}(hb:Below W.heap.size W w1):(∀ b o,b<W.heap.size->w1.cell? ⟨b,o,none⟩=W.cell? ⟨b,o,none⟩)/\(∀ b o,b<W.heap.size->w1.frozen? ⟨b,o,none⟩=W.frozen? ⟨b,o,none⟩):=
  ⟨fun b o h=>hb.cell (p:=⟨b,o,none⟩) h,fun b o h=>hb.frozen (p:=⟨b,o,none⟩) h⟩
theorem z2S{w w':World}{o:Obj}(h:Below (w.alloc o).heap.size (w.alloc o) w'):Below w.heap.size w w':=
  (z0v w o).trans (h.mono (by simp))
theorem z2d{w w1 w2:World}(h:Below w.heap.size w w1)(k:Below w1.heap.size w1 w2):Below w.heap.size w w2:=zbt h k
def isV(v:Int):Bool:=decide (0<=v/\v<6)
theorem j5e{v:Int}(h:0<=v)(h2:v<6):isV v=true:=by simp[isV];omega
theorem j0L{v:Int}(h:¬ (0<=v/\v<6)):isV v=false:=by simp[isV];omega
theorem z4c(v:Int)(w:World) :
    Calls prog 51 #[.int .i64 v] w fun e w'=>e=.returned (.bool (isV v))/\w=w':=by
  by_cases h:0<=v
  · by_cases h2:v<6
    · rw[j5e h h2]
      go_enter func51,ntmps51
      go_wp2;go_ret;exact⟨rfl,rfl⟩
    · rw[j0L (by omega)]
      go_enter func51,ntmps51
      go_wp2;go_ret;exact⟨rfl,rfl⟩
  · rw[j0L (by omega)]
    go_enter func51,ntmps51
    go_wp2;go_ret;exact⟨rfl,rfl⟩
def z0h(last:Int):List Int->Bool
  | []=>true
  | v :: t=>decide (last<v) && isV v && z0h v t
theorem q6i(l:List Int)(k:Nat)(h:k<l.length)(last:Int) :
    z0h last (l.drop k)=(decide (last<l.getD k 0) && isV (l.getD k 0) && z0h (l.getD k 0) (l.drop (k+1))):=by
  rw[List.drop_eq_getElem_cons h,z0h]
  simp[List.getD,h]
theorem q7R(l:List Int)(a:Option Addr)(c b off:Nat)(w:World)(hlen:l.length<=maxLen)(ha:0<l.length->a=some ⟨b,off,none⟩)
    (hc:z1b w b off l) :
    Calls prog 54 #[.slice a l.length c] w fun e w'=>e=.returned (.bool (z0h (-1) l))/\w=w':=by
  unfold maxLen at hlen;have HC:Hid (∀ i,i<l.length->w.cell? ⟨b,off+i,none⟩=some (.int .i64 (l.getD i 0))):=hc;have HA:Hid (0<l.length->a=some ⟨b,off,none⟩):=ha;clear hc ha
  go_enter func54,ntmps54
  go_wp2
  go_loop [3,8] (fun last i=>∃ (k:Nat) (x:Int),k<=l.length/\i=.int .i64 k/\last=.int .i64 x/\Hid (z0h (-1) l=z0h x (l.drop k))) (fun _ i=>l.length - (intOf i).toNat)
  case atStart=>exact⟨0,-1,Nat.zero_le _,rfl,rfl,by simp[Hid]⟩
  case round =>
    obtain⟨k,x,hk,rfl,rfl,HR⟩:=hrel
    by_cases hlt:k<l.length
    · have hcell:=HC.out k hlt
      have hd:=q6i l k hlt x;obtain⟨y,hy⟩:∃ y,l.getD k 0=y:=⟨_,rfl⟩;rw[hy]at hcell hd;have e:=HA.out (by omega)
      subst e;have HD:Hid (z0h x (l.drop k)=(decide (x<y) && isV y && z0h y (l.drop (k+1)))):=hd;clear hd hy
      by_cases h1:y<=x
      · go_wp2_with (go_at_call 51;refine (z4c _ _).mono ?_;rintro e w'⟨rfl,rfl⟩)
        go_ret;refine⟨?_,rfl⟩;rw[HR.out,HD.out];have:decide (x<y)=false:=by simp;omega
        simp[this]
      · by_cases h2:isV y=true
        · go_wp2_with (go_at_call 51;refine (z4c _ _).mono ?_;rintro e w'⟨rfl,rfl⟩)
          go_round
          case rel =>
            refine⟨k+1,y,by omega,by go_num,rfl,?_⟩
            have:decide (x<y)=true:=by simp;omega
            show _=_
            rw[HR.out,HD.out,this,h2];simp
          case measure=>simp[intOf];omega
        · have h2:isV y=false:=by simpa using h2
          go_wp2_with (go_at_call 51;refine (z4c _ _).mono ?_;rintro e w'⟨rfl,rfl⟩)
          go_ret;refine⟨?_,rfl⟩;rw[HR.out,HD.out,h2];simp
    · go_wp2
      go_ret;refine⟨?_,rfl⟩;rw[HR.out,List.drop_of_length_le (by omega)];rfl
def z0d(last:Int):List (Int×Int)->Bool
  | []=>true
  | p :: t=>decide (last<p.1) && isV p.1 && decide (0<=p.2) && decide (p.2<=1125899906842624) && z0d p.1 t
theorem q2q(l:List (Int×Int))(k:Nat)(h:k<l.length)(last:Int) :
    z0d last (l.drop k)=(decide (last<(l.getD k (0,0)).1) && isV (l.getD k (0,0)).1 && decide (0<=(l.getD k (0,0)).2) && decide ((l.getD k (0,0)).2<=1125899906842624) && z0d (l.getD k (0,0)).1 (l.drop (k+1))):=by
  rw[List.drop_eq_getElem_cons h,z0d]
  simp[List.getD,h]
theorem q6H(l:List (Int×Int))(a:Option Addr)(c b off:Nat)(w:World)(hlen:l.length<=maxLen)(ha:0<l.length->a=some ⟨b,off,none⟩)
    (hc:z5z w b off l) :
    Calls prog 53 #[.slice a l.length c] w fun e w'=>e=.returned (.bool (z0d (-1) l))/\Below w.heap.size w w':=by
  unfold maxLen at hlen;have HC:Hid (∀ i,i<l.length->w.cell? ⟨b,off+i * 2,none⟩=some (.int .i64 (l.getD i (0,0)).1)/\w.cell? ⟨b,off+i * 2+1,none⟩=some (.int .i64 (l.getD i (0,0)).2)):=hc;have HA:Hid (0<l.length->a=some ⟨b,off,none⟩):=ha;clear hc ha
  go_enter func53,ntmps53
  go_wp2
  go_loopw [3,8] (fun last i wl=>∃ (k:Nat) (x:Int),k<=l.length/\i=.int .i64 k/\last=.int .i64 x/\Hid (z0d (-1) l=z0d x (l.drop k))/\Hid (Below w.heap.size w wl)) (fun _ i _=>l.length - (intOf i).toNat)
  case atStart=>exact⟨0,-1,Nat.zero_le _,rfl,rfl,by simp[Hid],Below.refl _ _⟩
  case round =>
    obtain⟨k,x,hk,rfl,rfl,HR,HB⟩:=hrel
    by_cases hlt:k<l.length
    · have hcell:=HC.out k hlt
      have hd:=q2q l k hlt x;obtain⟨y,hy⟩:∃ y,l.getD k (0,0)=y:=⟨_,rfl⟩;rw[hy]at hcell hd;obtain⟨y,z⟩:=y;have e:=HA.out (by omega)
      subst e;have HD:Hid (z0d x (l.drop k)=(decide (x<y) && isV y && decide (0<=z) && decide (z<=1125899906842624) && z0d y (l.drop (k+1)))):=hd;clear hd hy;obtain⟨hc0,hc1⟩:=hcell;dsimp only at hc0 hc1;have hbl:b<w.heap.size:=World.block_lt_of_cell? w _ hc0;have hc0':wr.cell? ⟨b,off+k * 2,none⟩=some (.int .i64 y):=(HB.out.cell (p:=⟨b,off+k * 2,none⟩) hbl).trans hc0;have hc1':wr.cell? ⟨b,off+k * 2+1,none⟩=some (.int .i64 z):=(HB.out.cell (p:=⟨b,off+k * 2+1,none⟩) hbl).trans hc1;clear hc0 hc1;have hB0:=HB.out.size
      by_cases h1:y<=x
      · have e1:decide (x<y)=false:=by simp;omega
        have E:Hid (z0d x (l.drop k)=false):=by show _=_;rw[HD.out,e1];simp
        clear e1
        go_wp2_with (go_at_call 51;refine (z4c _ _).mono ?_;rintro e w'⟨rfl,rfl⟩)
        go_ret;refine⟨?_,?_⟩
        · rw[HR.out,E.out];simp
        · exact HB.out.alloc hB0 _
      by_cases h2:isV y=true
      · by_cases h3:z<0
        · have e1:decide (0<=z)=false:=by simp;omega
          have E:Hid (z0d x (l.drop k)=false):=by show _=_;rw[HD.out,e1];simp
          clear e1
          go_wp2_with (go_at_call 51;refine (z4c _ _).mono ?_;rintro e w'⟨rfl,rfl⟩)
          go_ret;refine⟨?_,?_⟩
          · rw[HR.out,E.out];simp
          · exact HB.out.alloc hB0 _
        by_cases h4:1125899906842624<z
        · have e1:decide (z<=1125899906842624)=false:=by simp;omega
          have E:Hid (z0d x (l.drop k)=false):=by show _=_;rw[HD.out,e1];simp
          clear e1
          go_wp2_with (go_at_call 51;refine (z4c _ _).mono ?_;rintro e w'⟨rfl,rfl⟩)
          go_ret;refine⟨?_,?_⟩
          · rw[HR.out,E.out];simp
          · exact HB.out.alloc hB0 _
        · have E:Hid (z0d x (l.drop k)=z0d y (l.drop (k+1))):=by
            show _=_
            have e0:decide (x<y)=true:=by simp;omega
            have e1:decide (0<=z)=true:=by simp;omega
            have e2:decide (z<=1125899906842624)=true:=by simp;omega
            rw[HD.out,e0,e1,e2,h2];simp
          go_wp2_with (go_at_call 51;refine (z4c _ _).mono ?_;rintro e w'⟨rfl,rfl⟩)
          go_roundw
          case rel=>exact⟨k+1,y,by omega,by go_num,rfl,HR.out.trans E.out,HB.out.alloc hB0 _⟩
          case measure=>simp[intOf];omega
      · have h2:isV y=false:=by simpa using h2
        have E:Hid (z0d x (l.drop k)=false):=by show _=_;rw[HD.out,h2];simp
        go_wp2_with (go_at_call 51;refine (z4c _ _).mono ?_;rintro e w'⟨rfl,rfl⟩)
        go_ret;refine⟨?_,?_⟩
        · rw[HR.out,E.out];simp
        · exact HB.out.alloc hB0 _
    · go_wp2
      go_ret;refine⟨?_,HB.out⟩;rw[HR.out,List.drop_of_length_le (by omega)];rfl
def z6U(k:Int):Bool:=k == 3 || k == 4
theorem q4i{k:Int}(h:k=3∨k=4):z6U k=true:=by simp[z6U];omega
theorem j2x{k:Int}(h:k≠3)(h2:k≠4):z6U k=false:=by simp[z6U];omega
theorem q8V(k i v n:Int)(s d:Value)(w:World) :
    Calls prog 50 #[.agg #[.int .i64 k,.int .i64 i,.int .i64 v,.int .i64 n,s,d]] w fun e w'=>e=.returned (.bool (z6U k))/\Below w.heap.size w w':=by
  by_cases h:k=3
  · subst h
    rw[q4i (by omega)]
    go_enter func50,ntmps50
    go_wp2;go_ret;exact⟨rfl,znw _ _⟩
  have h3:(k == 3)=false:=by simpa using h
  by_cases h':k=4
  · subst h'
    rw[q4i (by omega)]
    go_enter func50,ntmps50
    go_wp2;go_ret;exact⟨rfl,znw _ _⟩
  have h4:(k == 4)=false:=by simpa using h'
  rw[j2x h h'];clear h h'
  go_enter func50,ntmps50
  go_wp2;go_ret;exact⟨rfl,znw _ _⟩
def z8t(k v n:Int)(ls ld:Nat):Bool:=(!(z6U k) && (v != 0 || n != 0)) || (k != 1 && ((ls:Int) != 0 || (ld:Int) != 0))
theorem q4U(k v n:Int)(ls ld:Nat) :
    (z6U k=false/\(v != 0)=true/\z8t k v n ls ld=true)∨(z6U k=false/\(v != 0)=false/\(n != 0)=true/\z8t k v n ls ld=true) ∨
    (((z6U k=false/\(v != 0)=false/\(n != 0)=false)∨z6U k=true) /\
      ((k != 1)=false/\z8t k v n ls ld=false∨(k != 1)=true/\((ls:Int) != 0)=true/\z8t k v n ls ld=true ∨
       (k != 1)=true/\((ls:Int) != 0)=false/\((ld:Int) != 0)=true/\z8t k v n ls ld=true ∨
       (k != 1)=true/\((ls:Int) != 0)=false/\((ld:Int) != 0)=false/\z8t k v n ls ld=false)):=by
  unfold z8t;cases z6U k <;> cases (v != 0) <;> cases (n != 0) <;> cases (k != 1) <;> cases ((ls:Int) != 0) <;> cases ((ld:Int) != 0) <;> simp
theorem j6B(k i v n:Int)(sa da:Option Addr)(ls cs ld cd:Nat)(w:World) :
    Calls prog 52 #[.agg #[.int .i64 k,.int .i64 i,.int .i64 v,.int .i64 n,.slice sa ls cs,.slice da ld cd]] w fun e w'=>e=.returned (.bool (z8t k v n ls ld))/\Below w.heap.size w w':=by
  have hcs:=q4U k v n ls ld;generalize z8t k v n ls ld=F at *
  rcases hcs with⟨hacc,hv,rfl⟩ | ⟨hacc,hv,hn,rfl⟩ | ⟨⟨hacc,hv,hn⟩ | hacc,⟨hk,rfl⟩ | ⟨hk,hs,rfl⟩ | ⟨hk,hs,hd,rfl⟩ | ⟨hk,hs,hd,rfl⟩⟩
  all_goals go_enter func52,ntmps52
  all_goals go_wp2_with (go_at_call 50;refine (q8V _ _ _ _ _ _ _).mono ?_;rintro e w'⟨rfl,hb⟩;obtain⟨hc,hf⟩:=q5P hb;have hz:w.heap.size+1<=w'.heap.size:=(by have:=hb.size;simp at this;omega);have HB:Hid (Below _ _ w'):=hb;clear hb)
  all_goals go_ret
  all_goals exact⟨rfl,z2S HB.out⟩
end Cd
section
open Go.RowKit
theorem z1v(b:Nat)(w:World):Calls prog 173 #[.pointer (some ⟨b,0,none⟩)] w fun e w'=>e=.returned (.pointer (some ⟨b,4,none⟩))/\w=w':=by
 go_enter func173,ntmps173
 go_wp2;go_ret;exact⟨rfl,rfl⟩
theorem z1h(b:Nat)(w:World):Calls prog 174 #[.pointer (some ⟨b,0,none⟩)] w fun e w'=>e=.returned (.pointer (some ⟨b,5,none⟩))/\w=w':=by
 go_enter func174,ntmps174
 go_wp2;go_ret;exact⟨rfl,rfl⟩
theorem z4Y(b:Nat)(w:World):Calls prog 195 #[.pointer (some ⟨b,0,none⟩)] w fun e w'=>e=.returned (.pointer (some ⟨b,6,none⟩))/\w=w':=by
 go_enter func195,ntmps195
 go_wp2;go_ret;exact⟨rfl,rfl⟩
theorem q7g(b c:Nat)(d:Int)(w:World)(h0:0<=d)(h1:d<4)(hc:w.cell? ⟨c,0,none⟩=some (.int .i64 d)) :
  Calls prog 172 #[.pointer (some ⟨b,0,none⟩),.pointer (some ⟨c,0,none⟩)] w fun e w'=>e=.returned (.pointer (some ⟨b,d.toNat,none⟩))/\∃ nq,w'=w.drewN nq:=by
 go_enter func172,ntmps172
 go_wp2_with fail
 go_quiet (fail);go_wp2;go_ret;exact⟨rfl,_,rfl⟩
theorem z4Q(w:World):Calls prog 152 #[] w fun e w'=>e=.returned (.func (.func 173) #[] #[])/\w=w':=by
 go_enter func152,ntmps152
 go_wp2;go_ret;exact⟨rfl,rfl⟩
theorem z4b(w:World):Calls prog 153 #[] w fun e w'=>e=.returned (.func (.func 174) #[] #[])/\w=w':=by
 go_enter func153,ntmps153
 go_wp2;go_ret;exact⟨rfl,rfl⟩
theorem z7E(w:World):Calls prog 175 #[] w fun e w'=>e=.returned (.func (.func 195) #[] #[])/\w=w':=by
 go_enter func175,ntmps175
 go_wp2;go_ret;exact⟨rfl,rfl⟩
theorem z6A(d:Int)(w:World):Calls prog 151 #[.int .i64 d] w fun e w'=>e=.returned (.func (.func 172) #[] #[.pointer (some ⟨w.heap.size,0,none⟩)])/\w'=w.alloc (.cells #[.int .i64 d] 3):=by
 have hmf:∀ (fn:Fn) (first cap:Array Value) (w:World),(Instr.makeFunc fn first cap).run prog w=.ok (.func fn first cap) w:=fun _ _ _ _=>rfl
 go_enter func151,ntmps151
 go_wp2;go_ret;exact⟨rfl,rfl⟩
theorem z6a(d:Int)(w:World):Calls prog 149 #[.int .i64 d] w fun e w'=>e=.returned (.bool (decide (0<=d/\d<4)))/\w=w':=by
 by_cases h0:0<=d
 ·by_cases h1:d<4
  ·rw[decide_eq_true ⟨h0,h1⟩]
   go_enter func149,ntmps149
   go_wp2;go_ret;exact⟨rfl,rfl⟩
  ·rw[decide_eq_false (fun h=>h1 h.2)];have h2:4<=d:=by omega
   go_enter func149,ntmps149
   go_wp2;go_ret;exact⟨rfl,rfl⟩
 ·rw[decide_eq_false (fun h=>h0 h.1)];have h2:d<0:=by omega
  go_enter func149,ntmps149
  go_wp2;go_ret;exact⟨rfl,rfl⟩
theorem z1u(d:Int)(w:World):Calls prog 147 #[.int .i64 d] w fun e w'=>e=.returned (.bool (decide (0<=d/\d<=1125899906842624)))/\w=w':=by
 by_cases h0:0<=d
 ·by_cases h1:d<=1125899906842624
  ·rw[decide_eq_true ⟨h0,h1⟩]
   go_enter func147,ntmps147
   go_wp2;go_ret;exact⟨rfl,rfl⟩
  ·rw[decide_eq_false (fun h=>h1 h.2)];have h2:1125899906842624<d:=by omega
   go_enter func147,ntmps147
   go_wp2;go_ret;exact⟨rfl,rfl⟩
 ·rw[decide_eq_false (fun h=>h0 h.1)];have h2:d<0:=by omega
  go_enter func147,ntmps147
  go_wp2;go_ret;exact⟨rfl,rfl⟩
end
namespace O
open Go
section
variable {P:Program} {md:Region.Mode} {ops:Array Oper} {Q:Exit->Act->World->Prop} {S:World->Prop} {c:Nat}
def q1W(P:Program)(md:Region.Mode)(ops:Array Oper)(Q:Exit->Act->World->Prop)(S:World->Prop)(c:Nat):Nat->Array Bool->Act->World->Prop
 | 0,L,a,w=>Region.ready md ops L=[]/\Q .normal a w
 | n+1,L,a,w=>(Region.ready md ops L=[]->Q .normal a w) /\
  ∀ i∈Region.ready md ops L,wpOp P ops Q i (fun a' w'=>(i=c->wpAny P md ops Q n (L.setIfInBounds i true) a' w')/\(i≠c->S w'/\q1W P md ops Q S c n (L.setIfInBounds i true) a' w')) a w
theorem q4r:∀ (n:Nat) (L:Array Bool) (a:Act) (w:World),q1W P md ops Q S c n L a w->wpAny P md ops Q n L a w
 | 0,_,_,_,h=>h
 | n+1,L,a,w,h=>⟨h.1,fun i hi=>wpOp_mono (fun a' w' h'=>by
   by_cases e:i=c
   ·exact h'.1 e
   ·exact q4r n _ a' w' (h'.2 e).2) (h.2 i hi)⟩
structure Shut(md:Region.Mode)(ops:Array Oper)(i c:Nat)(R:Array Bool):Prop where
 noC:R.getD c false=false
 noI:R.getD i false=false
 closed:∀ j o,j≠i->ops[j]?=some o->(∀ e∈o.after,Region.binds md e=true->R.getD e.on false=true)->R.getD j false=true
theorem q5C{i:Nat}{oi:Oper}{v:Value}{R:Array Bool}(hi:ops[i]?=some oi)(hsel:∀ (j:Nat) (o:Oper) cs b,ops[j]?=some o->o.op≠.select cs b)
  (hQ:∀ c a w,Q (.panic c) (a.put oi.dst v) w->Q (.panic c) a w) (hR:Shut md ops i c R) :
  ∀ (n:Nat) (L:Array Bool) (a:Act) (w:World),(∀ j,L.getD j false=true->R.getD j false=true) ->
   (∀ j oj,ops[j]?=some oj->j≠i->L.getD j true=false->(∀ e∈oj.after,Region.binds md e=true->e.on≠i)->oi.apart ops oj=true) ->
   i∈Region.ready md ops L->YieldsIf P ops S oi v a->S w->i≠c ->
   q1W P md ops Q S c n (L.setIfInBounds i true) (a.put oi.dst v) w->q1W P md ops Q S c (n+1) L a w:=by
 intro n
 induction n with
 | zero =>
  intro L a w _ _ hr hy hS hic H;refine⟨fun h=>(by rw[h]at hr;cases hr),fun j hj=>?_⟩
  by_cases hji:j=i
  ·subst hji;exact hy.wpOp hi hS ⟨fun e=>absurd e hic,fun _=>⟨hS,H⟩⟩
  ·have:=ready_mono hj hji;rw[H.1]at this;cases this
 | succ n ih =>
  intro L a w hsub hfree hr hy hS hic H;refine⟨fun h=>(by rw[h]at hr;cases hr),fun j hj=>?_⟩
  by_cases hji:j=i
  ·subst hji;exact hy.wpOp hi hS ⟨fun e=>absurd e hic,fun _=>⟨hS,H⟩⟩
  ·have hK:=H.2 j (ready_mono hj hji);obtain⟨hjun,oj,hoj,hall⟩:=mem_ready.1 hj;have hRj:R.getD j false=true:=hR.closed j oj hji hoj fun e he hb=>hsub _ (hall e he hb);have hjc:j≠c:=fun e=>by rw[e,hR.noC]at hRj;cases hRj
   have hnot:∀ e∈oj.after,Region.binds md e=true->e.on≠i:=fun e he hb heq=>by
    have:=hsub _ (hall e he hb);rw[heq,hR.noI]at this;cases this
   refine wpOp_mono (fun a' w' h3=>⟨fun e=>absurd e hjc,fun _=>?_⟩) (wpOp_putIf hoj (hfree j oj hoj hji hjun hnot) (fun cs b=>hsel i oi cs b hi) (fun cs b=>hsel j oj cs b hoj) hQ hy hK);obtain⟨hy',-,h4⟩:=h3;obtain⟨hS',h5⟩:=h4 hjc;refine⟨hS',ih (L.setIfInBounds j true) a' w' (fun k hk=>?_) (fun k ok hk hki hun hno=>?_) (ready_mono hr (Ne.symm hji)) hy' hS' hic ?_⟩
   ·by_cases hkj:j=k
    ·subst hkj;exact hRj
    ·rw[getD_set_ne false hkj]at hk;exact hsub k hk
   ·refine hfree k ok hk hki ?_ hno
    by_cases hjk:j=k
    ·subst hjk;exact hjun
    ·rw[getD_set_ne true hjk]at hun;exact hun
   ·rw[Array.setIfInBounds_comm _ _ hji];exact h5
def q3q(md:Region.Mode)(ops:Array Oper)(i:Nat):Nat->Array Bool->Array Bool
 | 0,R=>R
 | n+1,R=>q3q md ops i n ((List.range ops.size).map fun j=>R.getD j false || (j != i && match ops[j]? with | some o=>o.after.all (fun e=>!(Region.binds md e) || R.getD e.on false) | none=>false)).toArray
def q8W(md:Region.Mode)(ops:Array Oper)(L:Array Bool)(i c:Nat)(R:Array Bool):Bool:=
 !(R.getD c false) && !(R.getD i false) && (L.size == ops.size) && (List.range ops.size).all fun j=>(!(L.getD j false) || R.getD j false) && (j == i || R.getD j false || match ops[j]? with | some o=>o.after.any (fun e=>Region.binds md e && !(R.getD e.on false)) | none=>true)
theorem z9y{L:Array Bool}{i:Nat}{R:Array Bool}(h:q8W md ops L i c R=true):Shut md ops i c R/\∀ j,L.getD j false=true->R.getD j false=true:=by
 simp only[q8W,Bool.and_eq_true,Bool.not_eq_true',beq_iff_eq,List.all_eq_true,List.mem_range]at h;obtain⟨⟨⟨h1,h2⟩,h3⟩,h4⟩:=h;refine⟨⟨h1,h2,fun j o hj ho hall=>?_⟩,fun j hj=>?_⟩
 ·have hlt:j<ops.size:=(Array.getElem?_eq_some_iff.1 ho).1;have:=(h4 j hlt).2;rw[ho]at this;simp only[Bool.or_eq_true,beq_iff_eq,Array.any_eq_true',Bool.and_eq_true,Bool.not_eq_true']at this
  rcases this with (h | h) | ⟨e,he,hb,hn⟩
  ·exact absurd h hj
  ·exact h
  ·have:=hall e he hb;rw[hn]at this;cases this
 ·by_cases hlt:j<ops.size
  ·have:=(h4 j hlt).1;simp only[Bool.or_eq_true,Bool.not_eq_true']at this
   rcases this with h | h
   ·rw[hj]at h;cases h
   ·exact h
  ·have:L.getD j false=false:=by
    simp[Array.getD_eq_getD_getElem?,Array.getElem?_eq_none (show L.size<=j by omega)]
   rw[this]at hj;cases hj
theorem q7F{i:Nat}{oi:Oper}{v:Value}{n:Nat}{L:Array Bool}{a:Act}{w:World}(hi:ops[i]?=some oi)
  (hs:Region.noSelect ops=true) (hf:Region.free md ops L i=true) (hr:(Region.ready md ops L).contains i=true) (hR:q8W md ops L i c (q3q md ops i ops.size L)=true) (hic:i≠c)
  (hQ:∀ c a w,Q (.panic c) (a.put oi.dst v) w->Q (.panic c) a w) (hy:YieldsIf P ops S oi v a) (hS:S w)
  (h:q1W P md ops Q S c n (L.setIfInBounds i true) (a.put oi.dst v) w):q1W P md ops Q S c (n+1) L a w:=
 q5C hi (Region.noSelect_spec hs) hQ (z9y hR).1 n L a w (z9y hR).2 (Region.free_spec hi hf) (by simpa using hr) hy hS hic h
theorem z2j{o:Oper}{n:Nat}{L:Array Bool}{a:Act}{w:World}(hr:Region.ready md ops L=[c])(ho:ops[c]?=some o)
  (h:∀ K':Act->World->Prop,(∀ a w,wpAny P md ops Q n (L.setIfInBounds c true) a w->K' a w)->if Region.wanted o (yielded ops a.tmps)=true then Oper.wp P o a w K' Q else K' (a.put o.dst undef) w):q1W P md ops Q S c (n+1) L a w:=by
 refine⟨fun h0=>(by rw[hr]at h0;cases h0),fun j hj=>?_⟩
 rw[hr,List.mem_singleton]at hj;subst hj;exact wpOp_step ho fun K' hK=>h K' fun a w hA=>hK a w ⟨fun _=>hA,fun e=>absurd rfl e⟩
theorem j6P{i:Nat}{o:Oper}{n:Nat}{L:Array Bool}{a:Act}{w:World}(hr:Region.ready md ops L=[i])(ho:ops[i]?=some o)
  (h:∀ K':Act->World->Prop,(∀ a w,wpAny P md ops Q n (L.setIfInBounds i true) a w->K' a w)->if Region.wanted o (yielded ops a.tmps)=true then Oper.wp P o a w K' Q else K' (a.put o.dst undef) w):wpAny P md ops Q (n+1) L a w:=by
 refine⟨fun h0=>(by rw[hr]at h0;cases h0),fun j hj=>?_⟩
 rw[hr,List.mem_singleton]at hj;subst hj;exact wpOp_step ho fun K' hK=>h K' fun a w hA=>hK a w hA
theorem j5T{i:Nat}{oi:Oper}{v:Value}{n:Nat}{L:Array Bool}{a:Act}{w:World}(dd:Option Tmp)(hi:ops[i]?=some oi)(hd:oi.dst=dd)
  (hs:Region.noSelect ops=true) (hf:Region.free md ops L i=true) (hr:(Region.ready md ops L).contains i=true) (hR:q8W md ops L i c (q3q md ops i ops.size L)=true) (hic:i≠c)
  (hQ:∀ c a w,Q (.panic c) (a.put dd v) w->Q (.panic c) a w) (hy:YieldsIf P ops S oi v a) (hS:S w)
  (h:q1W P md ops Q S c n (L.setIfInBounds i true) (a.put dd v) w):q1W P md ops Q S c (n+1) L a w:=by
 subst hd;exact q7F hi hs hf hr hR hic hQ hy hS h
theorem j9e{i:Nat}{oi:Oper}{v:Value}{n:Nat}{L:Array Bool}{a:Act}{w:World}(dd:Option Tmp)(hi:ops[i]?=some oi)(hd:oi.dst=dd)
  (hs:Region.noSelect ops=true) (hf:Region.free md ops L i=true) (hr:(Region.ready md ops L).contains i=true)
  (hQ:∀ c a w,Q (.panic c) (a.put dd v) w->Q (.panic c) a w) (hy:Yields P ops oi v a)
  (h:wpAny P md ops Q n (L.setIfInBounds i true) (a.put dd v) w):wpAny P md ops Q (n+1) L a w:=by
 subst hd;exact wpAny_take hi hs hf hr hQ hy h
theorem Y{oi:Oper}{n:Nat}{L:Array Bool}{a:Act}{w:World}(i:Nat)(v:Value)(s:Tmp)(hi:ops[i]?=some oi)(hd:oi.dst=some s)(hS:S w)
  (hy:∀ w,S w->(execOp a.eval oi).run P w=.ok (.value v) w) (h:q1W P md ops Q S c n (L.setIfInBounds i true) (a.put (some s) v) w)
  (hw:Region.wanted oi (yielded ops a.tmps)=true:=by rfl) (hs:Region.noSelect ops=true:=by kernel_rfl) (hf:Region.free md ops L i=true:=by kernel_rfl) (hr:(Region.ready md ops L).contains i=true:=by kernel_rfl) (hR:q8W md ops L i c (q3q md ops i ops.size L)=true:=by kernel_rfl) (hic:i≠c:=by decide)
  (hQ:∀ c a w,Q (.panic c) (a.put (some s) v) w->Q (.panic c) a w:=by exact fun _ _ _ h=>h):q1W P md ops Q S c (n+1) L a w:=j5T (some s) hi hd hs hf hr hR hic hQ (Or.inl ⟨hw,hy⟩) hS h
theorem X{oi:Oper}{n:Nat}{L:Array Bool}{a:Act}{w:World}(i:Nat)(v:Value)(s:Tmp)(hi:ops[i]?=some oi)(hd:oi.dst=some s)
  (hy:∀ w,(execOp a.eval oi).run P w=.ok (.value v) w) (h:wpAny P md ops Q n (L.setIfInBounds i true) (a.put (some s) v) w)
  (hw:Region.wanted oi (yielded ops a.tmps)=true:=by rfl) (hs:Region.noSelect ops=true:=by kernel_rfl) (hf:Region.free md ops L i=true:=by kernel_rfl) (hr:(Region.ready md ops L).contains i=true:=by kernel_rfl)
  (hQ:∀ c a w,Q (.panic c) (a.put (some s) v) w->Q (.panic c) a w:=by exact fun _ _ _ h=>h):wpAny P md ops Q (n+1) L a w:=j9e (some s) hi hd hs hf hr hQ (Or.inl ⟨hw,hy⟩) h
theorem pp{l:List Value}{d:List Deferred}{k:Nat}{v:Value}:Act.put ⟨l.toArray,d⟩ (some k) v=⟨(l.set k v).toArray,d⟩:=by simp[Act.put]
theorem pb{α:Type}{a b:α}{l:List α}:(a :: l).set 0 b=b :: l:=rfl
theorem pc{α:Type}{a b:α}{l:List α}{n:Nat}:(a :: l).set (n+1) b=a :: l.set n b:=rfl
theorem j9g{i:Nat}{o:Oper}{n:Nat}{L:Array Bool}{a:Act}{w:World}(hr:Region.ready md ops L=[i])(ho:ops[i]?=some o)(hg:o.guard=none)
  (h:∀ K':Act->World->Prop,(∀ a w,wpAny P md ops Q n (L.setIfInBounds i true) a w->K' a w)->Oper.wp P o a w K' Q):wpAny P md ops Q (n+1) L a w:=
 j6P hr ho fun K' hK=>by
  have hw:Region.wanted o (yielded ops a.tmps)=true:=by simp[Region.wanted,hg]
  rw[if_pos hw];exact h K' hK
theorem z2n{i:Nat}{o:Oper}{n:Nat}{L:Array Bool}{a:Act}{w:World}(hr:Region.ready md ops L=[i])(ho:ops[i]?=some o)(hg:o.guard=none)
  (ty:TypeId) (x y:Operand) (hop:o.op=.store ty x y) (hd:o.dst=none) (b off:Nat) (cells:Array Value) (hx:a.eval x=.pointer (some ⟨b,off,none⟩)) (hy:a.eval y=.agg cells)
  (ht:w.there b off cells.size) (hi:(P.info? ty).map (·.size)=some cells.size) (h1:cells.all (·.oneCell')=true)
  (h:wpAny P md ops Q n (L.setIfInBounds i true) a (w.setCells b off cells.toList)):wpAny P md ops Q (n+1) L a w:=
 j9g hr ho hg fun _ hK=>wp_store_mid ty x y hop b off cells hx hy ht hi h1 (hK _ _ (by rw[hd];exact h))
theorem z1m{id:Nat}{a:Act}{w:World}(hm:P.follows .mixedOrders=true)(h:q1W P .any ops Q S c ops.size (Array.replicate ops.size false) a w.drew):(Code.region id ops true).wp P Q a w:=
 wp_region_any hm (q4r _ _ _ _ h)
end
end O
namespace O
open Go
section
variable {P:Program} {md:Region.Mode} {ops:Array Oper} {Q:Exit->Act->World->Prop} {S:World->Prop} {c:Nat}
theorem q6D{i:Nat}{oi:Oper}{v:Value}(hi:ops[i]?=some oi)(hsel:∀ (j:Nat) (o:Oper) cs b,ops[j]?=some o->o.op≠.select cs b)
  (hQ:∀ c a w,Q (.panic c) (a.put oi.dst v) w->Q (.panic c) a w) (hic:i≠c) :
  ∀ (n:Nat) (L:Array Bool) (a:Act) (w:World),
   (∀ j oj,ops[j]?=some oj->j≠i->L.getD j true=false->(∀ e∈oj.after,Region.binds md e=true->e.on≠i)->oi.apart ops oj=true) ->
   i∈Region.ready md ops L->Yields P ops oi v a->S w ->
   q1W P md ops Q S c n (L.setIfInBounds i true) (a.put oi.dst v) w->q1W P md ops Q S c (n+1) L a w:=by
 intro n
 induction n with
 | zero =>
  intro L a w _ hr hy hS H;refine⟨fun h=>(by rw[h]at hr;cases hr),fun j hj=>?_⟩
  by_cases hji:j=i
  ·subst hji;exact hy.wpOp hi ⟨fun e=>absurd e hic,fun _=>⟨hS,H⟩⟩
  ·have:=ready_mono hj hji;rw[H.1]at this;cases this
 | succ n ih =>
  intro L a w hfree hr hy hS H;refine⟨fun h=>(by rw[h]at hr;cases hr),fun j hj=>?_⟩
  by_cases hji:j=i
  ·subst hji;exact hy.wpOp hi ⟨fun e=>absurd e hic,fun _=>⟨hS,H⟩⟩
  ·have hK:=H.2 j (ready_mono hj hji);obtain⟨hjun,oj,hoj,hall⟩:=mem_ready.1 hj
   have hnot:∀ e∈oj.after,Region.binds md e=true->e.on≠i:=fun e he hb heq=>by
    have h1:=hall e he hb;have h0:=(mem_ready.1 hr).1;rw[heq]at h1
    rcases Nat.lt_or_ge i L.size with h' | h'
    ·simp[h']at h0 h1;rw[h0]at h1;cases h1
    ·simp[Array.getElem?_eq_none h']at h1
   have hfree':∀ k ok,ops[k]?=some ok->k≠i->(L.setIfInBounds j true).getD k true=false ->
     (∀ e∈ok.after,Region.binds md e=true->e.on≠i)->oi.apart ops ok=true:=fun k ok hk hki hun hno=>by
    refine hfree k ok hk hki ?_ hno
    by_cases hjk:j=k
    ·subst hjk;exact hjun
    ·rw[getD_set_ne true hjk]at hun;exact hun
   refine wpOp_mono (fun a' w' h3=>⟨fun e=>?_,fun e=>?_⟩) (wpOp_put hoj (hfree j oj hoj hji hjun hnot) (fun cs b=>hsel i oi cs b hi) (fun cs b=>hsel j oj cs b hoj) hQ hy hK)
   ·refine wpAny_first hi hsel hQ n (L.setIfInBounds j true) a' w' hfree' (ready_mono hr (Ne.symm hji)) h3.1 ?_;rw[Array.setIfInBounds_comm _ _ hji];exact h3.2.1 e
   ·obtain⟨hS',h5⟩:=h3.2.2 e;refine⟨hS',ih (L.setIfInBounds j true) a' w' hfree' (ready_mono hr (Ne.symm hji)) h3.1 hS' ?_⟩;rw[Array.setIfInBounds_comm _ _ hji];exact h5
theorem q2G{i:Nat}{oi:Oper}{v:Value}{n:Nat}{L:Array Bool}{a:Act}{w:World}(dd:Option Tmp)(hi:ops[i]?=some oi)(hd:oi.dst=dd)
  (hs:Region.noSelect ops=true) (hf:Region.free md ops L i=true) (hr:(Region.ready md ops L).contains i=true)
  (hQ:∀ c a w,Q (.panic c) (a.put dd v) w->Q (.panic c) a w) (hy:YieldsIf P ops S oi v a) (hS:S w)
  (h:wpAnyH P md ops Q S n (L.setIfInBounds i true) (a.put dd v) w):wpAnyH P md ops Q S (n+1) L a w:=by
 subst hd;exact wpAnyH_take hi hs hf hr hQ hy hS h
theorem Z{oi:Oper}{n:Nat}{L:Array Bool}{a:Act}{w:World}(i:Nat)(v:Value)(s:Tmp)(hi:ops[i]?=some oi)(hd:oi.dst=some s)(hS:S w)
  (hy:∀ w,S w->(execOp a.eval oi).run P w=.ok (.value v) w) (h:wpAnyH P md ops Q S n (L.setIfInBounds i true) (a.put (some s) v) w)
  (hw:Region.wanted oi (yielded ops a.tmps)=true:=by rfl) (hs:Region.noSelect ops=true:=by kernel_rfl) (hf:Region.free md ops L i=true:=by kernel_rfl) (hr:(Region.ready md ops L).contains i=true:=by kernel_rfl)
  (hQ:∀ c a w,Q (.panic c) (a.put (some s) v) w->Q (.panic c) a w:=by exact fun _ _ _ h=>h):wpAnyH P md ops Q S (n+1) L a w:=q2G (some s) hi hd hs hf hr hQ (Or.inl ⟨hw,hy⟩) hS h
theorem G{oi:Oper}{n:Nat}{L:Array Bool}{a:Act}{w:World}(i:Nat)(v:Value)(s:Tmp)(hi:ops[i]?=some oi)(hd:oi.dst=some s)(hS:S w)
  (h:wpAnyH P md ops Q S n (L.setIfInBounds i true) (a.put (some s) v) w)
  (hy:∀ w,(execOp a.eval oi).run P w=.ok (.value v) w:=by intro _;go_simp)
  (hw:Region.wanted oi (yielded ops a.tmps)=true:=by rfl) (hs:Region.noSelect ops=true:=by kernel_rfl) (hf:Region.free md ops L i=true:=by kernel_rfl) (hr:(Region.ready md ops L).contains i=true:=by kernel_rfl)
  (hQ:∀ c a w,Q (.panic c) (a.put (some s) v) w->Q (.panic c) a w:=by exact fun _ _ _ h=>h):wpAnyH P md ops Q S (n+1) L a w:=q2G (some s) hi hd hs hf hr hQ (Or.inl ⟨hw,fun w _=>hy w⟩) hS h
theorem U{oi:Oper}{n:Nat}{L:Array Bool}{a:Act}{w:World}(i:Nat)(s:Tmp)(hi:ops[i]?=some oi)(hd:oi.dst=some s)(hS:S w)
  (h:wpAnyH P md ops Q S n (L.setIfInBounds i true) (a.put (some s) undef) w)
  (hw:Region.wanted oi (yielded ops a.tmps)=false:=by rfl) (hs:Region.noSelect ops=true:=by kernel_rfl) (hf:Region.free md ops L i=true:=by kernel_rfl) (hr:(Region.ready md ops L).contains i=true:=by kernel_rfl)
  (hQ:∀ c a w,Q (.panic c) (a.put (some s) undef) w->Q (.panic c) a w:=by exact fun _ _ _ h=>h):wpAnyH P md ops Q S (n+1) L a w:=q2G (some s) hi hd hs hf hr hQ (Or.inr ⟨hw,rfl⟩) hS h
theorem z1e{i:Nat}{o:Oper}{n:Nat}{L:Array Bool}{a:Act}{w:World}(hr:Region.ready md ops L=[i])(ho:ops[i]?=some o)(hg:o.guard=none)
  (h:∀ K':Act->World->Prop,(∀ a w,S w->wpAnyH P md ops Q S n (L.setIfInBounds i true) a w->K' a w)->Oper.wp P o a w K' Q):wpAnyH P md ops Q S (n+1) L a w:=by
 refine⟨fun h0=>(by rw[hr]at h0;cases h0),fun j hj=>?_⟩
 rw[hr,List.mem_singleton]at hj;subst hj;refine wpOp_step ho fun K' hK=>?_;rw[if_pos (show Region.wanted o (yielded ops a.tmps)=true by simp[Region.wanted,hg])]
 exact h K' fun a w hS hA=>hK a w ⟨hS,hA⟩
theorem z4m{i j:Nat}{oi oj:Oper}{n:Nat}{L:Array Bool}{a:Act}{w:World}(hr:Region.ready md ops L=[i,j])(hoi:ops[i]?=some oi)(hgi:oi.guard=none)(hoj:ops[j]?=some oj)(hgj:oj.guard=none)
  (h1:∀ K':Act->World->Prop,(∀ a w,S w->wpAnyH P md ops Q S n (L.setIfInBounds i true) a w->K' a w)->Oper.wp P oi a w K' Q)
  (h2:∀ K':Act->World->Prop,(∀ a w,S w->wpAnyH P md ops Q S n (L.setIfInBounds j true) a w->K' a w)->Oper.wp P oj a w K' Q):wpAnyH P md ops Q S (n+1) L a w:=by
 refine⟨fun h0=>(by rw[hr]at h0;cases h0),fun k hk=>?_⟩
 rw[hr]at hk
 rcases List.mem_cons.1 hk with rfl | hk
 ·refine wpOp_step hoi fun K' hK=>?_;rw[if_pos (show Region.wanted oi (yielded ops a.tmps)=true by simp[Region.wanted,hgi])]
  exact h1 K' fun a w hS hA=>hK a w ⟨hS,hA⟩
 ·rw[List.mem_singleton]at hk;subst hk;refine wpOp_step hoj fun K' hK=>?_;rw[if_pos (show Region.wanted oj (yielded ops a.tmps)=true by simp[Region.wanted,hgj])]
  exact h2 K' fun a w hS hA=>hK a w ⟨hS,hA⟩
theorem z0A{i:Nat}{o:Oper}{n:Nat}{L:Array Bool}{a:Act}{w:World}(hr:Region.ready md ops L=[i])(ho:ops[i]?=some o)(hg:o.guard=none)
  (ty:TypeId) (x y:Operand) (hop:o.op=.store ty x y) (hd:o.dst=none) (b off:Nat) (cells:Array Value) (hx:a.eval x=.pointer (some ⟨b,off,none⟩)) (hy:a.eval y=.agg cells)
  (ht:w.there b off cells.size) (hi:(P.info? ty).map (·.size)=some cells.size) (h1:cells.all (·.oneCell')=true) (hS:S (w.setCells b off cells.toList))
  (h:wpAnyH P md ops Q S n (L.setIfInBounds i true) a (w.setCells b off cells.toList)):wpAnyH P md ops Q S (n+1) L a w:=
 z1e hr ho hg fun _ hK=>wp_store_mid ty x y hop b off cells hx hy ht hi h1 (hK _ _ hS (by rw[hd];exact h))
theorem z0w{i:Nat}{oi:Oper}{v:Value}{n:Nat}{L:Array Bool}{a:Act}{w:World}(dd:Option Tmp)(hi:ops[i]?=some oi)(hd:oi.dst=dd)
  (hs:Region.noSelect ops=true) (hf:Region.free md ops L i=true) (hr:(Region.ready md ops L).contains i=true) (hic:i≠c)
  (hQ:∀ c a w,Q (.panic c) (a.put dd v) w->Q (.panic c) a w) (hy:Yields P ops oi v a) (hS:S w)
  (h:q1W P md ops Q S c n (L.setIfInBounds i true) (a.put dd v) w):q1W P md ops Q S c (n+1) L a w:=by
 subst hd;exact q6D hi (Region.noSelect_spec hs) hQ hic n L a w (Region.free_spec hi hf) (by simpa using hr) hy hS h
end
end O
section
open Go.RowKit
def BAt(w:World)(b:Nat)(f0 f1 f2 f3 bo wa bu:Int):Prop:=w.heap[b]?=some (.cells #[.int .i64 f0,.int .i64 f1,.int .i64 f2,.int .i64 f3,.int .i64 bo,.int .i64 wa,.int .i64 bu] 35)
section
variable {w w':World} {b B:Nat} {f0 f1 f2 f3 bo wa bu:Int}
theorem BAt.later(h:BAt w b f0 f1 f2 f3 bo wa bu)(hb:Below B w w')(hB:b<B):BAt w' b f0 f1 f2 f3 bo wa bu:=(hb.block b hB).trans h
theorem BAt.new(w:World)(f0 f1 f2 f3 bo wa bu:Int):BAt (w.alloc (.cells #[.int .i64 f0,.int .i64 f1,.int .i64 f2,.int .i64 f3,.int .i64 bo,.int .i64 wa,.int .i64 bu] 35)) w.heap.size f0 f1 f2 f3 bo wa bu:=heap_alloc_new _ _
theorem BAt.other{c o:Nat}(h:BAt w b f0 f1 f2 f3 bo wa bu)(hb:b≠c)(v:Value):BAt (w.setCell ⟨c,o,none⟩ v) b f0 f1 f2 f3 bo wa bu:=(Below.heap_setCell _ _ _ _ hb).trans h
theorem BAt.alloc(h:BAt w b f0 f1 f2 f3 bo wa bu)(o:Obj):BAt (w.alloc o) b f0 f1 f2 f3 bo wa bu:=(Below.heap_alloc _ _ _ (Array.getElem?_eq_some_iff.1 h).1).trans h
theorem BAt.lt(h:BAt w b f0 f1 f2 f3 bo wa bu):b<w.heap.size:=(Array.getElem?_eq_some_iff.1 h).1
theorem BAt.cells(h:BAt w b f0 f1 f2 f3 bo wa bu):w.cell? ⟨b,0,none⟩=some (.int .i64 f0)/\w.cell? ⟨b,1,none⟩=some (.int .i64 f1)/\w.cell? ⟨b,2,none⟩=some (.int .i64 f2)/\w.cell? ⟨b,3,none⟩=some (.int .i64 f3)/\w.cell? ⟨b,4,none⟩=some (.int .i64 bo)/\w.cell? ⟨b,5,none⟩=some (.int .i64 wa)/\w.cell? ⟨b,6,none⟩=some (.int .i64 bu):=by
 unfold BAt at h
 simp[World.cell?,h]
theorem BAt.frees(h:BAt w b f0 f1 f2 f3 bo wa bu):w.frozen? ⟨b,0,none⟩=false/\w.frozen? ⟨b,1,none⟩=false/\w.frozen? ⟨b,2,none⟩=false/\w.frozen? ⟨b,3,none⟩=false/\w.frozen? ⟨b,4,none⟩=false/\w.frozen? ⟨b,5,none⟩=false/\w.frozen? ⟨b,6,none⟩=false:=by
 unfold BAt at h
 simp[World.frozen?,h]
theorem BAt.q9n(h:BAt w b f0 f1 f2 f3 bo wa bu)(v:Int):BAt (w.setCell ⟨b,0,none⟩ (.int .i64 v)) b v f1 f2 f3 bo wa bu:=by
 unfold BAt at *
 simp[World.setCell,Array.getElem?_modify,h]
theorem BAt.q7w(h:BAt w b f0 f1 f2 f3 bo wa bu)(v:Int):BAt (w.setCell ⟨b,1,none⟩ (.int .i64 v)) b f0 v f2 f3 bo wa bu:=by
 unfold BAt at *
 simp[World.setCell,Array.getElem?_modify,h]
theorem BAt.q9D(h:BAt w b f0 f1 f2 f3 bo wa bu)(v:Int):BAt (w.setCell ⟨b,2,none⟩ (.int .i64 v)) b f0 f1 v f3 bo wa bu:=by
 unfold BAt at *
 simp[World.setCell,Array.getElem?_modify,h]
theorem BAt.q9f(h:BAt w b f0 f1 f2 f3 bo wa bu)(v:Int):BAt (w.setCell ⟨b,3,none⟩ (.int .i64 v)) b f0 f1 f2 v bo wa bu:=by
 unfold BAt at *
 simp[World.setCell,Array.getElem?_modify,h]
theorem BAt.j9n(h:BAt w b f0 f1 f2 f3 bo wa bu)(v:Int):BAt (w.setCell ⟨b,4,none⟩ (.int .i64 v)) b f0 f1 f2 f3 v wa bu:=by
 unfold BAt at *
 simp[World.setCell,Array.getElem?_modify,h]
theorem BAt.j9Q(h:BAt w b f0 f1 f2 f3 bo wa bu)(v:Int):BAt (w.setCell ⟨b,5,none⟩ (.int .i64 v)) b f0 f1 f2 f3 bo v bu:=by
 unfold BAt at *
 simp[World.setCell,Array.getElem?_modify,h]
theorem BAt.j8o(h:BAt w b f0 f1 f2 f3 bo wa bu)(v:Int):BAt (w.setCell ⟨b,6,none⟩ (.int .i64 v)) b f0 f1 f2 f3 bo wa v:=by
 unfold BAt at *
 simp[World.setCell,Array.getElem?_modify,h]
def z6Y(w:World)(b:Nat)(v0 v1 v2 v3 v4 v5 v6:Int):World:=((((((w.setCell ⟨b,0,none⟩ (.int .i64 v0)).setCell ⟨b,1,none⟩ (.int .i64 v1)).setCell ⟨b,2,none⟩ (.int .i64 v2)).setCell ⟨b,3,none⟩ (.int .i64 v3)).setCell ⟨b,4,none⟩ (.int .i64 v4)).setCell ⟨b,5,none⟩ (.int .i64 v5)).setCell ⟨b,6,none⟩ (.int .i64 v6)
theorem BAt.z6Y(h:BAt w b f0 f1 f2 f3 bo wa bu)(v0 v1 v2 v3 v4 v5 v6:Int):BAt (z6Y w b v0 v1 v2 v3 v4 v5 v6) b v0 v1 v2 v3 v4 v5 v6:=
 ((((((h.q9n v0).q7w v1).q9D v2).q9f v3).j9n v4).j9Q v5).j8o v6
theorem z3i(h:Below B w w')(hB:B<=b)(v0 v1 v2 v3 v4 v5 v6:Int):Below B w (Go.Proofs.YtmopekkhmhhcaaaGreat.z6Y w' b v0 v1 v2 v3 v4 v5 v6):=
 ((((((h.setCell hB _).setCell hB _).setCell hB _).setCell hB _).setCell hB _).setCell hB _).setCell hB _
end
end
section
open Go.RowKit
def j9A(c:Nat):Value:=.func (.func 172) #[] #[.pointer (some ⟨c,0,none⟩)]
def q5n(c:Nat->Nat)(k:Nat):List Value:=[.func (.func 173) #[] #[],.func (.func 174) #[] #[],.func (.func 195) #[] #[]] ++ (List.range k).map (fun j=>j9A (c j))
theorem q5F(c:Nat->Nat)(k X:Nat):q5n (fun j=>if j=k then X else c j) (k+1)=q5n c k ++ [j9A X]:=by
 unfold q5n;rw[List.range_succ,List.map_append,← List.append_assoc]
 congr 2
 ·apply List.map_congr_left;intro j hj;have:j≠k:=by simp at hj;omega
  simp[this]
 ·simp
def j9W(w:World)(B:Nat)(c:Nat->Nat)(k:Nat):Prop:=∀ j,j<k->B<=c j/\w.heap[c j]?=some (.cells #[.int .i64 j] 3 (0,0))
theorem q9M{w w':World}{B k:Nat}{c:Nat->Nat}{v:Value}{n:Nat}{xs:List Value}(hB:B<=w.heap.size)(h:j9W w B c k)
  (o:Obj) (ho:o=.cells #[.int .i64 (k:Int)] 3 (0,0)) (p:Obj) (hown:w.ownsRow B 220 1 v n xs) (hg:((w.alloc o).alloc p).grownBy w' v.ownBlock) :
  j9W w' B (fun j=>if j=k then w.heap.size else c j) (k+1):=by
 have key:∀ b,b<((w.alloc o).alloc p).heap.size->(∀ g,v.ownBlock=some g->g<w.heap.size/\∃ cur,w.heap[g]?=some (.cells cur 220 (0,0)))->∀ x,((w.alloc o).alloc p).heap[b]?=some (.cells x 3 (0,0))->w'.heap[b]?=some (.cells x 3 (0,0)):=by
  intro b hb hv x hx;rw[hg.block b hb ?_]
  ·exact hx
  ·intro e;obtain⟨hlt,cur,hc⟩:=hv b e.symm;rw[Below.heap_alloc _ _ _ (by simp;omega),Below.heap_alloc _ _ _ hlt,hc]at hx
   simp at hx
 have hv:∀ g,v.ownBlock=some g->g<w.heap.size/\∃ cur,w.heap[g]?=some (.cells cur 220 (0,0)):=by
  intro g hgv
  rcases hown.2 with⟨e,_⟩ | ⟨g',cap,cur,e,_,hh,_⟩
  ·subst e;simp[Value.ownBlock]at hgv
  ·subst e
   simp[Value.ownBlock]at hgv
   subst hgv;exact⟨(Array.getElem?_eq_some_iff.1 hh).1,cur,hh⟩
 intro j hj
 by_cases e:j=k
 ·subst e;simp only[if_pos];refine⟨hB,key _ (by simp;omega) hv _ ?_⟩
  rw[Below.heap_alloc _ _ _ (by simp)]
  subst ho;exact heap_alloc_new _ _
 ·simp only[if_neg e];obtain⟨h1,h2⟩:=h j (by omega)
  have hlt:=(Array.getElem?_eq_some_iff.1 h2).1;refine⟨h1,key _ (by simp;omega) hv _ ?_⟩
  rw[Below.heap_alloc _ _ _ (by simp;omega),Below.heap_alloc _ _ _ hlt]
  exact h2
theorem cell_one_new(w:World)(v:Value)(e:TypeId):∀ (j:Nat) (u:Value),[v][j]?=some u->(w.alloc (.cells #[v] e)).cell? ((⟨w.heap.size,0,none⟩:Addr).add j)=some u:=by
 intro j u h
 match j,h with
 | 0,h=>simp at h;subst h;simp[Addr.add]
theorem cell_two_new(w:World)(o:Obj)(v:Value)(e:TypeId):∀ (j:Nat) (u:Value),[v][j]?=some u->((w.alloc o).alloc (.cells #[v] e)).cell? ((⟨w.heap.size+1,0,none⟩:Addr).add j)=some u:=by
 have:=cell_one_new (w.alloc o) v e
 simpa using this
theorem q4R(w:World):Calls prog 193 #[] w fun e w'=>∃ v c,e=.returned v/\w'.ownsRow w.heap.size 220 1 v 7 (q5n c 4)/\j9W w' w.heap.size c 4/\Below w.heap.size w w':=by
 have hinfo:(prog.info? 220).map (fun i=>(i.zero,i.size,i.bytes))=some (some .nilFunc,1,8):=by kernel_rfl
 obtain⟨i0,hi,hz0,hz1,hz2⟩:∃ i,prog.info? 220=some i/\i.zero=some .nilFunc/\i.size=1/\i.bytes=8:=by
  cases h:prog.info? 220 with
  | none=>rw[h]at hinfo;cases hinfo
  | some i=>rw[h]at hinfo;simp at hinfo;exact⟨i,rfl,hinfo.1,hinfo.2.1,hinfo.2.2⟩
 clear hinfo
 go_enter func193,ntmps193
 go_wp2_with (first
  | (go_at_call 152;refine (z4Q _).mono ?_;rintro e w1⟨rfl,rfl⟩)
  | (go_at_call 153;refine (z4b _).mono ?_;rintro e w1⟨rfl,rfl⟩)
  | (go_at_call 175;refine (z7E _).mono ?_;rintro e w1⟨rfl,rfl⟩))
 go_loopw [1,7] (fun u i wl=>∃ (k:Nat) (c:Nat->Nat),k<=4/\i=.int .i64 (k:Int)/\wl.ownsRow w.heap.size 220 1 u (3+k) (q5n c k)/\Hid (j9W wl w.heap.size c k/\Below w.heap.size w wl)) (fun _ i _=>(4 - intOf i).toNat)
 case atStart =>
  refine⟨0,fun _=>0,by omega,rfl,?_,fun j hj=>absurd hj (by omega),znw w _⟩
  exact⟨rfl,.inr ⟨_,3,_,rfl,Nat.le_refl _,heap_alloc_new _ _,by omega,by unfold maxLen;omega,rfl,rfl⟩⟩
 case round =>
  obtain⟨k,c,hk,rfl,hown,HC⟩:=hrel;have hsz:w.heap.size<=wr.heap.size:=HC.out.2.size
  by_cases hk4:k<4
  ·go_wp2_with (first
    | (go_at_call 151;refine (z6A _ _).mono ?_;rintro e w1⟨rfl,rfl⟩)
     | (at_builtin;refine wpList_append_own _ rfl _ _ 259 rfl w.heap.size 220 i0 .nilFunc 1 8 underlying259 hi hz0 hz1 hz2 rfl (by decide) _ _ _ rfl (World.ownsRow.alloc (World.ownsRow.alloc hown _) _) ⟨wr.heap.size+1,0,none⟩ 1 1 [.func (.func 172) #[] #[.pointer (some ⟨wr.heap.size,0,none⟩)]] rfl rfl (cell_two_new _ _ _ _) (by intro u hu;simp at hu;subst hu;rfl) (by unfold maxLen;omega) (by omega) (by simp;omega) ?_;intro v' w1 hown' hgrow _))
   go_roundw
   case rel =>
    have hg:((wr.alloc (Obj.cells #[Value.int IntKind.i64 ↑k] 3)).alloc (Obj.cells #[Value.func (Fn.func 172) #[] #[Value.pointer (some ⟨wr.heap.size,0,none⟩)]] 220)).grownBy w1 u1.ownBlock:=hgrow;refine⟨k+1,fun j=>if j=k then wr.heap.size else c j,by omega,by go_num,?_,q9M hsz HC.out.1 _ rfl _ hown hg,?_⟩
    ·rw[q5F];exact hown'
    ·refine ((HC.out.2.alloc hsz _).alloc (by simp;omega) _).grown hg (by simp;omega) ?_
     intro b hb
     rcases hown.2 with⟨e,_⟩ | ⟨g',cap,cur,e,hB,_⟩
     ·subst e;simp[Value.ownBlock]at hb
     ·subst e
      simp[Value.ownBlock]at hb
      omega
   case measure=>simp[intOf];omega
  ·obtain rfl:k=4:=by omega
   go_wp2;go_ret;exact⟨_,c,rfl,hown,HC.out⟩
structure PL(w:World)(B g c0 c1 c2 c3:Nat):Prop where
 p0:w.cell? ⟨g,0,none⟩=some (.func (.func 173) #[] #[])
 p1:w.cell? ⟨g,1,none⟩=some (.func (.func 174) #[] #[])
 p2:w.cell? ⟨g,2,none⟩=some (.func (.func 195) #[] #[])
 p3:w.cell? ⟨g,3,none⟩=some (.func (.func 172) #[] #[.pointer (some ⟨c0,0,none⟩)])
 p4:w.cell? ⟨g,4,none⟩=some (.func (.func 172) #[] #[.pointer (some ⟨c1,0,none⟩)])
 p5:w.cell? ⟨g,5,none⟩=some (.func (.func 172) #[] #[.pointer (some ⟨c2,0,none⟩)])
 p6:w.cell? ⟨g,6,none⟩=some (.func (.func 172) #[] #[.pointer (some ⟨c3,0,none⟩)])
 q0:w.cell? ⟨c0,0,none⟩=some (.int .i64 0)
 q1:w.cell? ⟨c1,0,none⟩=some (.int .i64 1)
 q2:w.cell? ⟨c2,0,none⟩=some (.int .i64 2)
 q3:w.cell? ⟨c3,0,none⟩=some (.int .i64 3)
 bg:B<=g
 b0:B<=c0
 b1:B<=c1
 b2:B<=c2
 b3:B<=c3
theorem PL.later{w w':World}{B g c0 c1 c2 c3:Nat}(h:PL w B g c0 c1 c2 c3)(hb:∀ k,B<=k->w'.heap[k]?=w.heap[k]?):PL w' B g c0 c1 c2 c3:=by
 have k:∀ (b o:Nat),B<=b->w'.cell? ⟨b,o,none⟩=w.cell? ⟨b,o,none⟩:=fun b o hB=>World.cell?_of_block (w:=w) (hb b hB)
 exact⟨(k _ _ h.bg).trans h.p0,(k _ _ h.bg).trans h.p1,(k _ _ h.bg).trans h.p2,(k _ _ h.bg).trans h.p3,(k _ _ h.bg).trans h.p4,(k _ _ h.bg).trans h.p5,(k _ _ h.bg).trans h.p6,
  (k _ _ h.b0).trans h.q0,(k _ _ h.b1).trans h.q1,(k _ _ h.b2).trans h.q2,(k _ _ h.b3).trans h.q3,h.bg,h.b0,h.b1,h.b2,h.b3⟩
theorem z9j(w:World):Calls prog 193 #[] w fun e w'=>∃ g cap c0 c1 c2 c3,e=.returned (.slice (some ⟨g,0,none⟩) 7 cap)/\PL w' w.heap.size g c0 c1 c2 c3/\Below w.heap.size w w':=by
 refine (q4R w).mono ?_;rintro e w'⟨v,c,rfl,hown,hc,hb⟩
 rcases hown.2 with⟨_,h⟩ | ⟨g,cap,cur,rfl,hB,hh,_,_,_,ht⟩
 ·exact absurd h (by decide)
 ·have hcell:∀ i u,(q5n c 4)[i]?=some u->w'.cell? ⟨g,i,none⟩=some u:=by
   intro i u hu;rw[← ht,List.getElem?_take]at hu
   split at hu
   ·simp[World.cell?,hh]
    simpa using hu
   ·cases hu
  have hq:∀ j:Nat,j<4->w'.cell? ⟨c j,0,none⟩=some (.int .i64 j):=by
   intro j hj
   simp[World.cell?,(hc j hj).2]
  exact⟨g,cap,c 0,c 1,c 2,c 3,rfl,⟨hcell 0 _ rfl,hcell 1 _ rfl,hcell 2 _ rfl,hcell 3 _ rfl,hcell 4 _ rfl,hcell 5 _ rfl,hcell 6 _ rfl,hq 0 (by decide),hq 1 (by decide),hq 2 (by decide),hq 3 (by decide),hB,(hc 0 (by decide)).1,(hc 1 (by decide)).1,(hc 2 (by decide)).1,(hc 3 (by decide)).1⟩,hb⟩
end
/-
 The arithmetic under MulDiv,no Go in sight: that a division of 128 bits by 64,two digits of 32 bits each (as the library's text goes),gives the quotient;and the reference's way,bit by bit.
-/
namespace Ra
theorem q4m(y1 y0 u u1 q r:Int)(hy:0<y1 * 4294967296+y0)(hu:q * y1+r=u) :
  (4294967296 * r+u1<q * y0)↔(u * 4294967296+u1) / (y1 * 4294967296+y0)<q:=by
 rw[Int.ediv_lt_iff_lt_mul hy,Int.mul_add,← Int.mul_assoc];generalize q * y1=p1 at *;generalize q * y0=p0 at *;omega
theorem j2a(y1 y0 u u1:Int)(hy:0<y1 * 4294967296+y0)(hu:u<y1 * 4294967296+y0)(h1:u1<4294967296) :
  (u * 4294967296+u1) / (y1 * 4294967296+y0)<4294967296:=by
 rw[Int.ediv_lt_iff_lt_mul hy];omega
theorem q2y(y1 y0 u u1:Int)(h0:0<=y0)(h0':y0<4294967296)(h1:2147483648<=y1)(hu0:0<=u)(hu:u<y1 * 4294967296+y0)(h1u:0<=u1)(h1u':u1<4294967296) :
  (u * 4294967296+u1) / (y1 * 4294967296+y0)<=u / y1/\u / y1<=4294967297:=by
 constructor
 ·have e:=Int.mul_ediv_add_emod u y1;have m:=Int.emod_lt_of_pos u (show 0<y1 by omega)
  have:(u * 4294967296+u1) / (y1 * 4294967296+y0)<u / y1+1:=by
   rw[Int.ediv_lt_iff_lt_mul (by omega)]
   have q0:0<=u / y1:=Int.ediv_nonneg hu0 (by omega)
   have:0<=(u / y1+1) * y0:=Int.mul_nonneg (by omega) h0
   rw[Int.mul_add,← Int.mul_assoc,Int.add_mul (u / y1) 1 y1,Int.mul_comm (u / y1) y1];generalize (u / y1+1) * y0=p0 at *;generalize y1 * (u / y1)=p1 at *;omega
  omega
 ·have:u / y1<4294967298:=by
   rw[Int.ediv_lt_iff_lt_mul (by omega)]
   omega
  omega
theorem q4O(Y u a b:Int)(hY:0<Y) :
  (u * 4294967296+a) / Y * 4294967296+(((u * 4294967296+a) % Y) * 4294967296+b) / Y=(u * 18446744073709551616+a * 4294967296+b) / Y:=by
 have e:=Int.mul_ediv_add_emod (u * 4294967296+a) Y;generalize (u * 4294967296+a) / Y=q at *;generalize (u * 4294967296+a) % Y=r at *
 have:u * 18446744073709551616+a * 4294967296+b=r * 4294967296+b+q * 4294967296 * Y:=by
  have:Y * q * 4294967296=q * 4294967296 * Y:=by rw[Int.mul_comm Y q,Int.mul_right_comm]
  omega
 rw[this,Int.add_mul_ediv_right _ _ (by omega)]
 omega
theorem q6J(U y p:Int)(hp:0<p):U * p / (y * p)=U / y:=Int.mul_ediv_mul_of_pos_left U y hp
/-! ### the reference: bit by bit -/
/-! ### a digit's loop -/
def Dig(y1 u Q q r:Int):Prop:=q * y1+r=u/\Q<=q/\0<=q/\q<=4294967297/\0<=r/\r<4294967296
theorem Dig.prod{y1 u Q q r:Int}(h:Dig y1 u Q q r){y0:Int}(h0:0<=y0)(h0':y0<4294967296):0<=q * y0/\q * y0<18446744073709551616:=by
 obtain⟨_,_,h1,h2,_,_⟩:=h;refine⟨Int.mul_nonneg h1 h0,?_⟩;have:=Int.mul_le_mul h2 (show y0<=4294967295 by omega) h0 (by omega)
 omega
theorem Dig.gt{y1 u Q q r:Int}(h:Dig y1 u Q q r){y0 u1:Int}(hy:0<y1 * 4294967296+y0)(hQ:Q=(u * 4294967296+u1) / (y1 * 4294967296+y0)):(4294967296 * r+u1<q * y0)↔Q<q:=by
 rw[hQ];exact q4m y1 y0 u u1 q r hy h.1
theorem Dig.next{y1 u Q q r:Int}(h:Dig y1 u Q q r)(hq:Q<q)(hQ:0<=Q)(h1:0<=y1)(hr:r+y1<4294967296):Dig y1 u Q (q - 1) (r+y1):=by
 obtain⟨e,h2,h3,h4,h5,h6⟩:=h;refine⟨?_,by omega,by omega,by omega,by omega,hr⟩
 rw[Int.sub_mul];generalize q * y1=p at *;omega
theorem Dig.last{y1 u Q q r:Int}(h:Dig y1 u Q q r)(hq:Q<q){y0 u1:Int}(h0:0<=y0)(h0':y0<4294967296)(hu:0<=u1)(hy:0<y1 * 4294967296+y0)(hQ:Q=(u * 4294967296+u1) / (y1 * 4294967296+y0))(hr:4294967296<=r+y1):q - 1=Q:=by
 obtain⟨e,h2,h3,h4,h5,h6⟩:=h
 have e':(q - 1) * y1+(r+y1)=u:=by
  rw[Int.sub_mul];generalize q * y1=p at *;omega
 have g:=q4m y1 y0 u u1 (q - 1) (r+y1) hy e';rw[← hQ]at g;have b:=Int.mul_le_mul (show q - 1<=4294967296 by omega) (show y0<=4294967295 by omega) h0 (by omega)
 generalize (q - 1) * y0=p at *;omega
theorem Dig.first(y1 y0 u u1 Q:Int)(h0:0<=y0)(h0':y0<4294967296)(h1:2147483648<=y1)(h1':y1<4294967296)(hu0:0<=u)(hu:u<y1 * 4294967296+y0)(h1u:0<=u1)(h1u':u1<4294967296)(hQ:Q=(u * 4294967296+u1) / (y1 * 4294967296+y0)) :
  Dig y1 u Q (u / y1) (u % y1)/\0<=Q/\Q<4294967296/\0<=u / y1 * y1/\u / y1 * y1<=u/\u - u / y1 * y1=u % y1:=by
 have f:=q2y y1 y0 u u1 h0 h0' h1 hu0 hu h1u h1u';have l:=j2a y1 y0 u u1 (by omega) hu h1u'
 have n:0<=(u * 4294967296+u1) / (y1 * 4294967296+y0):=Int.ediv_nonneg (by omega) (by omega)
 rw[← hQ]at f l n;have e:=Int.mul_ediv_add_emod u y1;rw[Int.mul_comm]at e;have m:=Int.emod_lt_of_pos u (show 0<y1 by omega)
 have m0:=Int.emod_nonneg u (show y1≠0 by omega)
 have q0:0<=u / y1:=Int.ediv_nonneg hu0 (by omega)
 have p0:0<=u / y1 * y1:=Int.mul_nonneg q0 (by omega)
 have D:Dig y1 u Q (u / y1) (u % y1):=⟨e,f.1,q0,f.2,m0,by omega⟩
 exact⟨D,n,l,p0,by omega,by omega⟩
end Ra
namespace Ra
theorem q8r(y:Nat)(hy0:0<y)(hy:y<9223372036854775808):∃ s:Nat,bitLen y+s=64/\1<=s/\s<=63/\9223372036854775808<=y * 2 ^ s/\y * 2 ^ s<18446744073709551616:=by
 obtain⟨h1,h2⟩:=bitLen_spec y;have h2:=h2 (by omega)
 have hb0:bitLen y≠0:=by intro h;rw[h]at h1;omega
 have hb:bitLen y<=63:=by
  apply Decidable.byContradiction;intro h;have:2 ^ 63<=2 ^ (bitLen y - 1):=Nat.pow_le_pow_right (by decide) (by omega)
  omega
 refine⟨64 - bitLen y,by omega,by omega,by omega,?_,?_⟩
 ·have e:2 ^ (bitLen y - 1) * 2 ^ (64 - bitLen y)=2 ^ 63:=by rw[← Nat.pow_add];congr 1;omega
  have:=Nat.mul_le_mul_right (2 ^ (64 - bitLen y)) h2;omega
 ·have e:2 ^ bitLen y * 2 ^ (64 - bitLen y)=2 ^ 64:=by rw[← Nat.pow_add];congr 1;omega
  have:=Nat.mul_lt_mul_of_pos_right h1 (Nat.two_pow_pos (64 - bitLen y));omega
theorem q5O(hi lo y s:Nat)(hs:1<=s)(hs2:s<=63)(h:hi<y)(hl:lo<18446744073709551616)(hY:y * 2 ^ s<18446744073709551616) :
  (hi * 18446744073709551616+lo) * 2 ^ s=(hi * 2 ^ s+lo / 2 ^ (64 - s)) * 18446744073709551616+lo * 2 ^ s % 18446744073709551616/\hi * 2 ^ s+lo / 2 ^ (64 - s)<y * 2 ^ s /\
  hi * 2 ^ s<18446744073709551616/\lo / 2 ^ (64 - s)<2 ^ s:=by
 have ep:2 ^ (64 - s) * 2 ^ s=18446744073709551616:=by rw[← Nat.pow_add,show 64 - s+s=64 by omega]
 have e1:lo * 2 ^ s / 18446744073709551616=lo / 2 ^ (64 - s):=by rw[← ep];exact Nat.mul_div_mul_right lo (2 ^ (64 - s)) (Nat.two_pow_pos s)
 have e2:=Nat.div_add_mod (lo * 2 ^ s) 18446744073709551616;rw[e1]at e2
 have e:(hi * 18446744073709551616+lo) * 2 ^ s=(hi * 2 ^ s+lo / 2 ^ (64 - s)) * 18446744073709551616+lo * 2 ^ s % 18446744073709551616:=by
  rw[Nat.add_mul,Nat.add_mul,Nat.mul_right_comm];generalize hi * 2 ^ s=a;generalize lo * 2 ^ s=b at *;omega
 have b1:hi * 18446744073709551616+lo<y * 18446744073709551616:=by omega
 have b2:=Nat.mul_lt_mul_of_pos_right b1 (Nat.two_pow_pos s);rw[e,Nat.mul_right_comm]at b2;have b3:lo / 2 ^ (64 - s)<2 ^ s:=by rw[Nat.div_lt_iff_lt_mul (Nat.two_pow_pos _),Nat.mul_comm,ep];exact hl
 refine⟨e,?_,?_,b3⟩
 ·generalize y * 2 ^ s=Y at *;generalize hi * 2 ^ s+lo / 2 ^ (64 - s)=u at *;omega
 ·have:=Nat.mul_le_mul_right (2 ^ s) (Nat.le_of_lt h);omega
theorem j6A(a b s:Nat)(ha:a * 2 ^ s<18446744073709551616)(hb:b<2 ^ s)(hb2:b<18446744073709551616):bits .or .u64 ((a * 2 ^ s:Nat):Int) (b:Int)=((a * 2 ^ s+b:Nat):Int):=by
 rw[bits_or_u64_nat _ _ ha hb2,Nat.mul_comm a,Nat.two_pow_add_eq_or_of_lt hb]
end Ra
namespace Ra
open Go.RowKit
theorem y0S(x y:Int)(hx0:0<=x)(hx:x<18446744073709551616)(hy0:0<=y)(hy:y<18446744073709551616)(w:World) :
  Calls prog 170 #[.int .u64 x,.int .u64 y] w fun e w'=>e=.returned (.tuple #[.int .u64 (x * y / 18446744073709551616),.int .u64 (x * y % 18446744073709551616)])/\w'=w:=by
 have A:=mul64_arith x y hx0 hx hy0 hy
 go_enter func170,ntmps170
 go_wp2;simp only[IntKind.wrap_u64,and_low32 x hx0 hx,and_low32 y hy0 hy,and_low32 (_ % 18446744073709551616) (Int.emod_nonneg _ (by decide)) (Int.emod_lt_of_pos _ (by decide)),A]
 go_ret2;exact⟨rfl,rfl⟩
theorem q9S(x b:Nat)(h:2 ^ b<=x):bitLen x=b+bitLen (x / 2 ^ b):=
 bitLen_shift x b (by have:=(Nat.le_div_iff_mul_le (Nat.two_pow_pos b)).2 (show 1 * 2 ^ b<=x by omega);omega)
theorem shifted(x b p:Nat)(hp:2 ^ b=p)(h:p<=x):∃ z:Nat,(x:Int) / p=z/\bitLen x=b+bitLen z/\z=x / p:=by
 subst hp;exact⟨x / 2 ^ b,by rw[Int.natCast_ediv],q9S x b h,rfl⟩
theorem wrap_small(a:Nat)(h:a<=8):wrap64 (a:Int)=(a:Int):=by unfold wrap64;omega
theorem z4j(k a b:Nat)(hk:k<=56)(h:a<=8)(e:b=k+a):wrap64 ((k:Int)+(a:Int))=(b:Int):=by unfold wrap64;omega
set_option maxRecDepth 1000000 in
theorem j2B(x:Nat)(hx:x<18446744073709551616)(w:World) :
  Calls prog 188 #[.int .u64 x] w fun e w'=>e=.returned (.int .i64 (bitLen x))/\w'=w:=by
 by_cases h0:4294967296<=x
 ·have i0:(4294967296:Int)<=(x:Int):=by omega
  obtain⟨z,q0,e0,f0⟩:=shifted x 32 4294967296 (by decide) h0
  simp only[Int.cast_ofNat_Int]at q0
  by_cases h1:65536<=z
  ·have i1:(65536:Int)<=(z:Int):=by omega
   obtain⟨y,q1,e1,f1⟩:=shifted z 16 65536 (by decide) h1
   simp only[Int.cast_ofNat_Int]at q1
   by_cases h2:256<=y
   ·have i2:(256:Int)<=(y:Int):=by omega
    obtain⟨v,q2,e2,f2⟩:=shifted y 8 256 (by decide) h2
    simp only[Int.cast_ofNat_Int]at q2;have hb:=bitLen_le8 v (by omega)
    have j:(v:Int)<256:=by omega
    have e:bitLen x=56+bitLen v:=by clear h0 h1 h2 hx hb j;omega
    have g1:wrap64 ((bitLen v:Nat):Int)=(bitLen v:Nat):=wrap_small _ hb;have g2:wrap64 (56+((bitLen v:Nat):Int))=(bitLen x:Nat):=z4j 56 _ _ (by decide) hb e
    clear e;clear hb h0 h1 h2 hx e0 f0 e1 f1 e2 f2
    go_enter func188,ntmps188
    go_wp2;simp only[len8tab_get,g1,g2];go_ret;exact⟨rfl,rfl⟩
   ·have i2:¬ (256:Int)<=(y:Int):=by omega
    have hb:=bitLen_le8 y (by omega)
    have j:(y:Int)<256:=by omega
    have e:bitLen x=48+bitLen y:=by clear h0 h1 h2 hx hb j;omega
    have g1:wrap64 ((bitLen y:Nat):Int)=(bitLen y:Nat):=wrap_small _ hb;have g2:wrap64 (48+((bitLen y:Nat):Int))=(bitLen x:Nat):=z4j 48 _ _ (by decide) hb e
    clear e;clear hb h0 h1 h2 hx e0 f0 e1 f1
    go_enter func188,ntmps188
    go_wp2;simp only[len8tab_get,g1,g2];go_ret;exact⟨rfl,rfl⟩
  ·have i1:¬ (65536:Int)<=(z:Int):=by omega
   by_cases h2:256<=z
   ·have i2:(256:Int)<=(z:Int):=by omega
    obtain⟨v,q2,e2,f2⟩:=shifted z 8 256 (by decide) h2
    simp only[Int.cast_ofNat_Int]at q2;have hb:=bitLen_le8 v (by omega)
    have j:(v:Int)<256:=by omega
    have e:bitLen x=40+bitLen v:=by clear h0 h1 h2 hx hb j;omega
    have g1:wrap64 ((bitLen v:Nat):Int)=(bitLen v:Nat):=wrap_small _ hb;have g2:wrap64 (40+((bitLen v:Nat):Int))=(bitLen x:Nat):=z4j 40 _ _ (by decide) hb e
    clear e;clear hb h0 h1 h2 hx e0 f0 e2 f2
    go_enter func188,ntmps188
    go_wp2;simp only[len8tab_get,g1,g2];go_ret;exact⟨rfl,rfl⟩
   ·have i2:¬ (256:Int)<=(z:Int):=by omega
    have hb:=bitLen_le8 z (by omega)
    have j:(z:Int)<256:=by omega
    have e:bitLen x=32+bitLen z:=by clear h0 h1 h2 hx hb j;omega
    have g1:wrap64 ((bitLen z:Nat):Int)=(bitLen z:Nat):=wrap_small _ hb;have g2:wrap64 (32+((bitLen z:Nat):Int))=(bitLen x:Nat):=z4j 32 _ _ (by decide) hb e
    clear e;clear hb h0 h1 h2 hx e0 f0
    go_enter func188,ntmps188
    go_wp2;simp only[len8tab_get,g1,g2];go_ret;exact⟨rfl,rfl⟩
 ·have i0:¬ (4294967296:Int)<=(x:Int):=by omega
  by_cases h1:65536<=x
  ·have i1:(65536:Int)<=(x:Int):=by omega
   obtain⟨y,q1,e1,f1⟩:=shifted x 16 65536 (by decide) h1
   simp only[Int.cast_ofNat_Int]at q1
   by_cases h2:256<=y
   ·have i2:(256:Int)<=(y:Int):=by omega
    obtain⟨v,q2,e2,f2⟩:=shifted y 8 256 (by decide) h2
    simp only[Int.cast_ofNat_Int]at q2;have hb:=bitLen_le8 v (by omega)
    have j:(v:Int)<256:=by omega
    have e:bitLen x=24+bitLen v:=by clear h0 h1 h2 hx hb j;omega
    have g1:wrap64 ((bitLen v:Nat):Int)=(bitLen v:Nat):=wrap_small _ hb;have g2:wrap64 (24+((bitLen v:Nat):Int))=(bitLen x:Nat):=z4j 24 _ _ (by decide) hb e
    clear e;clear hb h0 h1 h2 hx e1 f1 e2 f2
    go_enter func188,ntmps188
    go_wp2;simp only[len8tab_get,g1,g2];go_ret;exact⟨rfl,rfl⟩
   ·have i2:¬ (256:Int)<=(y:Int):=by omega
    have hb:=bitLen_le8 y (by omega)
    have j:(y:Int)<256:=by omega
    have e:bitLen x=16+bitLen y:=by clear h0 h1 h2 hx hb j;omega
    have g1:wrap64 ((bitLen y:Nat):Int)=(bitLen y:Nat):=wrap_small _ hb;have g2:wrap64 (16+((bitLen y:Nat):Int))=(bitLen x:Nat):=z4j 16 _ _ (by decide) hb e
    clear e;clear hb h0 h1 h2 hx e1 f1
    go_enter func188,ntmps188
    go_wp2;simp only[len8tab_get,g1,g2];go_ret;exact⟨rfl,rfl⟩
  ·have i1:¬ (65536:Int)<=(x:Int):=by omega
   by_cases h2:256<=x
   ·have i2:(256:Int)<=(x:Int):=by omega
    obtain⟨v,q2,e2,f2⟩:=shifted x 8 256 (by decide) h2
    simp only[Int.cast_ofNat_Int]at q2;have hb:=bitLen_le8 v (by omega)
    have j:(v:Int)<256:=by omega
    have e:bitLen x=8+bitLen v:=by clear h0 h1 h2 hx hb j;omega
    have g1:wrap64 ((bitLen v:Nat):Int)=(bitLen v:Nat):=wrap_small _ hb;have g2:wrap64 (8+((bitLen v:Nat):Int))=(bitLen x:Nat):=z4j 8 _ _ (by decide) hb e
    clear e;clear hb h0 h1 h2 hx e2 f2
    go_enter func188,ntmps188
    go_wp2;simp only[len8tab_get,g1,g2];go_ret;exact⟨rfl,rfl⟩
   ·have i2:¬ (256:Int)<=(x:Int):=by omega
    have hb:=bitLen_le8 x (by omega)
    have j:(x:Int)<256:=by omega
    have g1:wrap64 ((bitLen x:Nat):Int)=(bitLen x:Nat):=wrap_small _ hb;clear hb h0 h1 h2 hx
    go_enter func188,ntmps188
    go_wp2;simp only[len8tab_get,g1];go_ret;exact⟨rfl,rfl⟩
theorem q9z(x:Nat)(hx:x<18446744073709551616)(hl:bitLen x<=64)(w:World) :
  Calls prog 194 #[.int .u64 x] w fun e w'=>e=.returned (.int .i64 (64 - bitLen x))/\w'=w:=by
 have c:=j2B x hx w;generalize bitLen x=n at *
 go_enter func194,ntmps194
 go_wp2_with (go_at_call 188;refine c.mono ?_;rintro e w'⟨rfl,rfl⟩)
 go_ret;exact⟨rfl,rfl⟩
end Ra
namespace Df
abbrev Pw:=Int×Int
def z8u(P:Nat->Int)(x:Pw):Nat->Int:=if 0<=x.1/\x.1<6 then (fun i=>if i=x.1.toNat then x.2 else P i) else P
def z2t:Nat->Int:=fun _=>0
def z1s(l:List Pw):Nat->Int:=l.foldr (fun x P=>z8u P x) z2t
def z1G(P:Nat->Int)(l:List Pw):Nat->Int:=l.foldl z8u P
def those(c:Nat->Bool)(f:Nat->Int)(n:Nat):List Pw:=(List.range n).filterMap fun v=>if c v=true then some ((v:Int),f v) else none
theorem z1W(c:Nat->Bool)(f:Nat->Int)(n:Nat):those c f (n+1)=if c n=true then those c f n ++ [((n:Int),f n)] else those c f n:=by
 unfold those;rw[List.range_succ,List.filterMap_append];cases h:c n <;> simp[h]
theorem z3Z(c:Nat->Bool)(f:Nat->Int):∀ n,(those c f n).length<=n
 | 0=>by simp[those]
 | n+1=>by
  have:=z3Z c f n;rw[z1W]
  split
  ·rw[List.length_append];simp;omega
  ·omega
def z3x(a b:List Pw):List Pw:=those (fun v=>decide (z1s b v≠z1s a v)) (z1s b) 6
def z1L(a d:List Pw):List Pw:=those (fun v=>decide (0<z1G (z1G z2t a) d v)) (z1G (z1G z2t a) d) 6
theorem z3W{P:Nat->Int}{n:Nat}{x:Int}(hn:n<6)(i:Nat):z8u P ((n:Int),x) i=if i=n then x else P i:=by
 unfold z8u;rw[if_pos (by simp;omega)]
 simp
def z8x(l:List Pw):Int:=l.foldl (fun s x=>(s+x.2+9223372036854775808) % 18446744073709551616 - 9223372036854775808) 0
theorem q6w(l:List Pw)(k:Nat)(hk:k<l.length):z1s (l.drop k)=z8u (z1s (l.drop (k+1))) (l.getD k (0,0)):=by
 unfold z1s;rw[List.drop_eq_getElem_cons hk,List.foldr_cons,show l.getD k (0,0)=l[k] by simp[List.getD,hk]]
theorem z9H(P:Nat->Int)(l:List Pw)(k:Nat)(hk:k<l.length):z1G P (l.take (k+1))=z8u (z1G P (l.take k)) (l.getD k (0,0)):=by
 unfold z1G;rw[List.take_succ_eq_append_getElem hk,List.foldl_append]
 simp[List.getD,hk]
theorem j3i(l:List Pw)(k:Nat)(hk:k<l.length):z8x (l.take (k+1))=(z8x (l.take k)+(l.getD k (0,0)).2+9223372036854775808) % 18446744073709551616 - 9223372036854775808:=by
 unfold z8x;rw[List.take_succ_eq_append_getElem hk,List.foldl_append]
 simp[List.getD,hk]
end Df
end Go.Proofs.YtmopekkhmhhcaaaGreat
