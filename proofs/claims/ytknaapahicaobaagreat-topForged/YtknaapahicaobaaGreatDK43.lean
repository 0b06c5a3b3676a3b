/- Parts of the proof. -/
import Derived.Test.YtknaapahicaobaaGreatDL
import Derived.Test.YtknaapahicaobaaGreatDK21
set_option maxRecDepth 100000
set_option maxHeartbeats 16000000
namespace Go.Proofs.YtknaapahicaobaaGreat
open Go.Proofs.Tryz
namespace Wd
open Go.RowKit Pv
structure Row(w:World)(A:Option Addr)(n C sz:Nat)(cs:List Value):Prop where
 len:cs.length=n * sz
 nil:A=none->n=0/\C=0
 at_:∀ ad,A=some ad->∀ j u,cs[j]?=some u->w.cell? (ad.add j)=some u
theorem row_of{P:Nat->Prop}{w:World}{v:Value}{sz bts:Nat}{cs:List Value}(h:Rep P w v sz bts cs){n:Nat}(hn:cs.length=n * sz)(hz:0<sz):∃ A C,v=.slice A n C/\Row w A n C sz cs/\n * bts<=140737488351232:=by
 obtain ⟨A,C,rfl,hl,h0,-,h1⟩:=h.open hn hz;exact ⟨A,C,rfl,⟨hn,h0,h1⟩,hl⟩
theorem z4W{P:Nat->Prop}{w:World}{v:Value}{sz bts:Nat}{cs:List Value}(h:z0I P w v sz bts cs){n:Nat}(hn:cs.length=n * sz)(hz:0<sz):∃ A C,v=.slice A n C/\Row w A n C sz cs/\n * bts<=140737488351232:=by
 obtain ⟨A,m,C,C',rfl,hc,h'⟩:=h;obtain ⟨A1,C1,e,hl,h0,-,h1⟩:=h'.open hn hz;cases e;exact ⟨A,C,rfl,⟨hn,fun e=>⟨(h0 e).1,hc e⟩,h1⟩,hl⟩
theorem j7L:(prog.info? 3).map (fun i=>(i.zero,i.size,i.bytes))=some (some (.int .i64 0),1,8):=by kernel_rfl
theorem j2u(w:World)(a:Option Addr)(n c:Nat):(binOp .eql 43 (.slice a n c) (.slice none 0 0)).run prog w=.ok (.bool a.isNone) w:=by
 simp[binOp,run_equal_slice_nil w 43 3 a n c underlying43]
theorem j0O(w:World):(w.alloc (.cells #[] 3)).ownsRow w.heap.size 3 1 (.slice (some ⟨w.heap.size,0,none⟩) 0 0) 0 []:=⟨rfl,.inr ⟨w.heap.size,0,#[],rfl,Nat.le_refl _,heap_alloc_new _ _,Nat.le_refl _,Nat.zero_le _,rfl,rfl⟩⟩
theorem q7k(w:World)(a:Addr)(n c:Nat)(cs:List Value)(h:Row w (some a) n c 1 cs)(h1:∀ u∈cs,u.oneCell'=true)(hb:n * 8<=140737488351232) :
  ∃ A C w',(Builtin.append_ #[43,43] 43 #[.slice (some ⟨w.heap.size,0,none⟩) 0 0,.slice (some a) n c]).run prog (w.alloc (.cells #[] 3))=.ok (.slice A n C) w'/\w'.ownsRow w.heap.size 3 1 (.slice A n C) n cs/\Below w.heap.size w w':=by
 obtain ⟨i0,hi,hz0,hz1,hz2⟩:=info_parts j7L
 have hlt:∀ j u,cs[j]?=some u->(w.alloc (.cells #[] 3)).cell? (a.add j)=some u:=fun j u hj=>by
  have h2:=h.at_ a rfl j u hj;have h3:(a.add j).block<w.heap.size:=World.block_lt_of_cell? w _ h2;rw[((Below.refl w.heap.size w).alloc (Nat.le_refl _) (.cells #[] 3)).cell h3];exact h2
 obtain ⟨v',w',hr,ho,hg,-,hat⟩:=run_append_own_at (P:=prog) (w.alloc (.cells #[] 3)) w.heap.size 43 43 3 i0 _ 1 8 underlying43 hi hz0 hz1 hz2 rfl (by omega) _ 0 [] (j0O w) a n c cs h.len
  hlt h1 (by simp only[maxLen];omega) (by omega) (by simp)
 rw[Nat.zero_add,List.nil_append]at ho
 have hv:∃ A C,v'=.slice A n C:=by
  rcases ho.2 with ⟨rfl,h0⟩ | ⟨g,cap,cur,rfl,_⟩
  ·rw[h0];exact ⟨none,0,rfl⟩
  ·exact ⟨_,_,rfl⟩
 obtain ⟨A,C,rfl⟩:=hv;refine ⟨A,C,w',hr,ho,?_⟩;have hb:=(Below.refl w.heap.size w).alloc (Nat.le_refl _) (.cells #[] 3);exact ⟨hg.os.trans hb.os,hg.tape.trans hb.tape,hg.output.trans hb.output,Nat.le_trans hb.size hg.size,fun k hk=>(hg.block k (by simp;omega) (by simp[Value.ownBlock];omega)).trans (hb.block k hk)⟩
theorem q4l{ops:Array Oper}{rest:List Oper}{o:Oper}{a:Act}{w:World}{Q:Exit->Act->World->Prop}(hg:o.guard=none)(hty:o.type=43)(p q:Operand)
  (hop:o.op=Op.call { callee:=Callee.builtin Builtin.append,args:=#[p,q],argTypes:=#[43,43] }) (ad:Addr) (n c:Nat) (cs:List Value) (hs:a.eval p=.slice (some ⟨w.heap.size,0,none⟩) 0 0) (hx:a.eval q=.slice (some ad) n c) (h:Row w (some ad) n c 1 cs) (h1:∀ u∈cs,u.oneCell'=true) (hb:n * 8<=140737488351232)
  (hK:∀ A C w',w'.ownsRow w.heap.size 3 1 (.slice A n C) n cs/\Below w.heap.size w w'->wpList prog ops Q rest (a.put o.dst (.slice A n C)) w'):wpList prog ops Q (o :: rest) a (w.alloc (.cells #[] 3)):=by
 refine wpList_plain hg fun _ hK'=>?_;unfold Oper.wp;obtain ⟨A,C,w',hr,h1⟩:=q7k w ad n c cs h h1 hb
 simp[execOp,hop,resolve,invoke,builtin,hs,hx,hty,hr,Result.andThen]
 exact hK' _ _ (hK _ _ _ h1)
theorem z5O(A:Option Addr)(n C:Nat)(cs:List Value)(w:World)(h:Row w A n C 1 cs)(h1:∀ u∈cs,u.oneCell'=true)(hb:n * 8<=140737488351232) :
  Calls prog 53 #[.slice A n C] w fun e w'=>∃ A' C',e=.returned (.slice A' n C')/\Rep (fun b=>w.heap.size<=b) w' (.slice A' n C') 1 8 cs/\Below w.heap.size w w':=by
 cases A with
 | none =>
  obtain ⟨rfl,rfl⟩:=h.nil rfl;obtain rfl:cs=[]:=List.length_eq_zero_iff.1 (by rw[h.len])
  have hq:=fun w=>j2u w none 0 0;clear h h1
  go_enter func53,ntmps53
  go_wp2;go_ret;exact ⟨_,_,rfl,Rep.nil _ _ _ _,Below.refl _ _⟩
 | some a =>
  have hq:=fun w=>j2u w (some a) n C;have HH:=hide h;have H1:=hide h1;clear h h1
  go_enter func53,ntmps53
  go_upto_region 3 with fail
  apply wp_region_lit
  iterate 6 go_step
  refine q4l rfl rfl _ _ rfl a n C cs rfl rfl HH.out H1.out hb ?_;rintro A' C' w' ⟨h1,h2⟩;have H1:=hide h1;have H2:=hide h2;clear h1 h2;go_wp2;go_ret;exact ⟨_,_,rfl,Rep.own H1.out hb,H2.out⟩
theorem j6y:(prog.info? 9).map (fun i=>(i.zero,i.size,i.bytes))=some (some (.string ⟨#[]⟩),1,16):=by kernel_rfl
theorem j2Q(w:World)(a:Option Addr)(n c:Nat):(binOp .eql 44 (.slice a n c) (.slice none 0 0)).run prog w=.ok (.bool a.isNone) w:=by
 simp[binOp,run_equal_slice_nil w 44 9 a n c underlying44]
theorem j0S(w:World):(w.alloc (.cells #[] 9)).ownsRow w.heap.size 9 1 (.slice (some ⟨w.heap.size,0,none⟩) 0 0) 0 []:=⟨rfl,.inr ⟨w.heap.size,0,#[],rfl,Nat.le_refl _,heap_alloc_new _ _,Nat.le_refl _,Nat.zero_le _,rfl,rfl⟩⟩
theorem q7W(w:World)(a:Addr)(n c:Nat)(cs:List Value)(h:Row w (some a) n c 1 cs)(h1:∀ u∈cs,u.oneCell'=true)(hb:n * 16<=140737488351232) :
  ∃ A C w',(Builtin.append_ #[44,44] 44 #[.slice (some ⟨w.heap.size,0,none⟩) 0 0,.slice (some a) n c]).run prog (w.alloc (.cells #[] 9))=.ok (.slice A n C) w'/\w'.ownsRow w.heap.size 9 1 (.slice A n C) n cs/\Below w.heap.size w w':=by
 obtain ⟨i0,hi,hz0,hz1,hz2⟩:=info_parts j6y
 have hlt:∀ j u,cs[j]?=some u->(w.alloc (.cells #[] 9)).cell? (a.add j)=some u:=fun j u hj=>by
  have h2:=h.at_ a rfl j u hj;have h3:(a.add j).block<w.heap.size:=World.block_lt_of_cell? w _ h2;rw[((Below.refl w.heap.size w).alloc (Nat.le_refl _) (.cells #[] 9)).cell h3];exact h2
 obtain ⟨v',w',hr,ho,hg,-,hat⟩:=run_append_own_at (P:=prog) (w.alloc (.cells #[] 9)) w.heap.size 44 44 9 i0 _ 1 16 underlying44 hi hz0 hz1 hz2 rfl (by omega) _ 0 [] (j0S w) a n c cs h.len
  hlt h1 (by simp only[maxLen];omega) (by omega) (by simp)
 rw[Nat.zero_add,List.nil_append]at ho
 have hv:∃ A C,v'=.slice A n C:=by
  rcases ho.2 with ⟨rfl,h0⟩ | ⟨g,cap,cur,rfl,_⟩
  ·rw[h0];exact ⟨none,0,rfl⟩
  ·exact ⟨_,_,rfl⟩
 obtain ⟨A,C,rfl⟩:=hv;refine ⟨A,C,w',hr,ho,?_⟩;have hb:=(Below.refl w.heap.size w).alloc (Nat.le_refl _) (.cells #[] 9);exact ⟨hg.os.trans hb.os,hg.tape.trans hb.tape,hg.output.trans hb.output,Nat.le_trans hb.size hg.size,fun k hk=>(hg.block k (by simp;omega) (by simp[Value.ownBlock];omega)).trans (hb.block k hk)⟩
theorem q5i{ops:Array Oper}{rest:List Oper}{o:Oper}{a:Act}{w:World}{Q:Exit->Act->World->Prop}(hg:o.guard=none)(hty:o.type=44)(p q:Operand)
  (hop:o.op=Op.call { callee:=Callee.builtin Builtin.append,args:=#[p,q],argTypes:=#[44,44] }) (ad:Addr) (n c:Nat) (cs:List Value) (hs:a.eval p=.slice (some ⟨w.heap.size,0,none⟩) 0 0) (hx:a.eval q=.slice (some ad) n c) (h:Row w (some ad) n c 1 cs) (h1:∀ u∈cs,u.oneCell'=true) (hb:n * 16<=140737488351232)
  (hK:∀ A C w',w'.ownsRow w.heap.size 9 1 (.slice A n C) n cs/\Below w.heap.size w w'->wpList prog ops Q rest (a.put o.dst (.slice A n C)) w'):wpList prog ops Q (o :: rest) a (w.alloc (.cells #[] 9)):=by
 refine wpList_plain hg fun _ hK'=>?_;unfold Oper.wp;obtain ⟨A,C,w',hr,h1⟩:=q7W w ad n c cs h h1 hb
 simp[execOp,hop,resolve,invoke,builtin,hs,hx,hty,hr,Result.andThen]
 exact hK' _ _ (hK _ _ _ h1)
theorem q5n(A:Option Addr)(n C:Nat)(cs:List Value)(w:World)(h:Row w A n C 1 cs)(h1:∀ u∈cs,u.oneCell'=true)(hb:n * 16<=140737488351232) :
  Calls prog 83 #[.slice A n C] w fun e w'=>∃ A' C',e=.returned (.slice A' n C')/\Rep (fun b=>w.heap.size<=b) w' (.slice A' n C') 1 16 cs/\Below w.heap.size w w':=by
 cases A with
 | none =>
  obtain ⟨rfl,rfl⟩:=h.nil rfl;obtain rfl:cs=[]:=List.length_eq_zero_iff.1 (by rw[h.len])
  have hq:=fun w=>j2Q w none 0 0;clear h h1
  go_enter func83,ntmps83
  go_wp2;go_ret;exact ⟨_,_,rfl,Rep.nil _ _ _ _,Below.refl _ _⟩
 | some a =>
  have hq:=fun w=>j2Q w (some a) n C;have HH:=hide h;have H1:=hide h1;clear h h1
  go_enter func83,ntmps83
  go_upto_region 3 with fail
  apply wp_region_lit
  iterate 6 go_step
  refine q5i rfl rfl _ _ rfl a n C cs rfl rfl HH.out H1.out hb ?_;rintro A' C' w' ⟨h1,h2⟩;have H1:=hide h1;have H2:=hide h2;clear h1 h2;go_wp2;go_ret;exact ⟨_,_,rfl,Rep.own H1.out hb,H2.out⟩
theorem j6t:(prog.info? 115).map (fun i=>(i.zero,i.size,i.bytes))=some (some (.agg #[.int .i64 0,.int .i64 0,.int .i64 0,.int .i64 0,.int .i64 0,.slice none 0 0,.slice none 0 0]),7,88):=by kernel_rfl
theorem j2v(w:World)(a:Option Addr)(n c:Nat):(binOp .eql 54 (.slice a n c) (.slice none 0 0)).run prog w=.ok (.bool a.isNone) w:=by
 simp[binOp,run_equal_slice_nil w 54 115 a n c underlying54]
theorem j1W(w:World):(w.alloc (.cells #[] 115)).ownsRow w.heap.size 115 7 (.slice (some ⟨w.heap.size,0,none⟩) 0 0) 0 []:=⟨rfl,.inr ⟨w.heap.size,0,#[],rfl,Nat.le_refl _,heap_alloc_new _ _,Nat.le_refl _,Nat.zero_le _,rfl,rfl⟩⟩
theorem q9N(w:World)(a:Addr)(n c:Nat)(cs:List Value)(h:Row w (some a) n c 7 cs)(h1:∀ u∈cs,u.oneCell'=true)(hb:n * 88<=140737488351232) :
  ∃ A C w',(Builtin.append_ #[54,54] 54 #[.slice (some ⟨w.heap.size,0,none⟩) 0 0,.slice (some a) n c]).run prog (w.alloc (.cells #[] 115))=.ok (.slice A n C) w'/\w'.ownsRow w.heap.size 115 7 (.slice A n C) n cs/\Below w.heap.size w w':=by
 obtain ⟨i0,hi,hz0,hz1,hz2⟩:=info_parts j6t
 have hlt:∀ j u,cs[j]?=some u->(w.alloc (.cells #[] 115)).cell? (a.add j)=some u:=fun j u hj=>by
  have h2:=h.at_ a rfl j u hj;have h3:(a.add j).block<w.heap.size:=World.block_lt_of_cell? w _ h2;rw[((Below.refl w.heap.size w).alloc (Nat.le_refl _) (.cells #[] 115)).cell h3];exact h2
 obtain ⟨v',w',hr,ho,hg,-,hat⟩:=run_append_own_at (P:=prog) (w.alloc (.cells #[] 115)) w.heap.size 54 54 115 i0 _ 7 88 underlying54 hi hz0 hz1 hz2 rfl (by omega) _ 0 [] (j1W w) a n c cs h.len
  hlt h1 (by simp only[maxLen];omega) (by omega) (by simp)
 rw[Nat.zero_add,List.nil_append]at ho
 have hv:∃ A C,v'=.slice A n C:=by
  rcases ho.2 with ⟨rfl,h0⟩ | ⟨g,cap,cur,rfl,_⟩
  ·rw[h0];exact ⟨none,0,rfl⟩
  ·exact ⟨_,_,rfl⟩
 obtain ⟨A,C,rfl⟩:=hv;refine ⟨A,C,w',hr,ho,?_⟩;have hb:=(Below.refl w.heap.size w).alloc (Nat.le_refl _) (.cells #[] 115);exact ⟨hg.os.trans hb.os,hg.tape.trans hb.tape,hg.output.trans hb.output,Nat.le_trans hb.size hg.size,fun k hk=>(hg.block k (by simp;omega) (by simp[Value.ownBlock];omega)).trans (hb.block k hk)⟩
theorem q3Q{ops:Array Oper}{rest:List Oper}{o:Oper}{a:Act}{w:World}{Q:Exit->Act->World->Prop}(hg:o.guard=none)(hty:o.type=54)(p q:Operand)
  (hop:o.op=Op.call { callee:=Callee.builtin Builtin.append,args:=#[p,q],argTypes:=#[54,54] }) (ad:Addr) (n c:Nat) (cs:List Value) (hs:a.eval p=.slice (some ⟨w.heap.size,0,none⟩) 0 0) (hx:a.eval q=.slice (some ad) n c) (h:Row w (some ad) n c 7 cs) (h1:∀ u∈cs,u.oneCell'=true) (hb:n * 88<=140737488351232)
  (hK:∀ A C w',w'.ownsRow w.heap.size 115 7 (.slice A n C) n cs/\Below w.heap.size w w'->wpList prog ops Q rest (a.put o.dst (.slice A n C)) w'):wpList prog ops Q (o :: rest) a (w.alloc (.cells #[] 115)):=by
 refine wpList_plain hg fun _ hK'=>?_;unfold Oper.wp;obtain ⟨A,C,w',hr,h1⟩:=q9N w ad n c cs h h1 hb
 simp[execOp,hop,resolve,invoke,builtin,hs,hx,hty,hr,Result.andThen]
 exact hK' _ _ (hK _ _ _ h1)
theorem j6q:(prog.info? 83).map (fun i=>(i.zero,i.size,i.bytes))=some (some (.agg #[.int .i64 0,.int .i64 0,.int .i64 0,.int .i64 0,.slice none 0 0,.slice none 0 0]),6,80):=by kernel_rfl
theorem j2p(w:World)(a:Option Addr)(n c:Nat):(binOp .eql 62 (.slice a n c) (.slice none 0 0)).run prog w=.ok (.bool a.isNone) w:=by
 simp[binOp,run_equal_slice_nil w 62 83 a n c underlying62]
theorem j1t(w:World):(w.alloc (.cells #[] 83)).ownsRow w.heap.size 83 6 (.slice (some ⟨w.heap.size,0,none⟩) 0 0) 0 []:=⟨rfl,.inr ⟨w.heap.size,0,#[],rfl,Nat.le_refl _,heap_alloc_new _ _,Nat.le_refl _,Nat.zero_le _,rfl,rfl⟩⟩
theorem q7V(w:World)(a:Addr)(n c:Nat)(cs:List Value)(h:Row w (some a) n c 6 cs)(h1:∀ u∈cs,u.oneCell'=true)(hb:n * 80<=140737488351232) :
  ∃ A C w',(Builtin.append_ #[62,62] 62 #[.slice (some ⟨w.heap.size,0,none⟩) 0 0,.slice (some a) n c]).run prog (w.alloc (.cells #[] 83))=.ok (.slice A n C) w'/\w'.ownsRow w.heap.size 83 6 (.slice A n C) n cs/\Below w.heap.size w w':=by
 obtain ⟨i0,hi,hz0,hz1,hz2⟩:=info_parts j6q
 have hlt:∀ j u,cs[j]?=some u->(w.alloc (.cells #[] 83)).cell? (a.add j)=some u:=fun j u hj=>by
  have h2:=h.at_ a rfl j u hj;have h3:(a.add j).block<w.heap.size:=World.block_lt_of_cell? w _ h2;rw[((Below.refl w.heap.size w).alloc (Nat.le_refl _) (.cells #[] 83)).cell h3];exact h2
 obtain ⟨v',w',hr,ho,hg,-,hat⟩:=run_append_own_at (P:=prog) (w.alloc (.cells #[] 83)) w.heap.size 62 62 83 i0 _ 6 80 underlying62 hi hz0 hz1 hz2 rfl (by omega) _ 0 [] (j1t w) a n c cs h.len
  hlt h1 (by simp only[maxLen];omega) (by omega) (by simp)
 rw[Nat.zero_add,List.nil_append]at ho
 have hv:∃ A C,v'=.slice A n C:=by
  rcases ho.2 with ⟨rfl,h0⟩ | ⟨g,cap,cur,rfl,_⟩
  ·rw[h0];exact ⟨none,0,rfl⟩
  ·exact ⟨_,_,rfl⟩
 obtain ⟨A,C,rfl⟩:=hv;refine ⟨A,C,w',hr,ho,?_⟩;have hb:=(Below.refl w.heap.size w).alloc (Nat.le_refl _) (.cells #[] 83);exact ⟨hg.os.trans hb.os,hg.tape.trans hb.tape,hg.output.trans hb.output,Nat.le_trans hb.size hg.size,fun k hk=>(hg.block k (by simp;omega) (by simp[Value.ownBlock];omega)).trans (hb.block k hk)⟩
theorem q5h{ops:Array Oper}{rest:List Oper}{o:Oper}{a:Act}{w:World}{Q:Exit->Act->World->Prop}(hg:o.guard=none)(hty:o.type=62)(p q:Operand)
  (hop:o.op=Op.call { callee:=Callee.builtin Builtin.append,args:=#[p,q],argTypes:=#[62,62] }) (ad:Addr) (n c:Nat) (cs:List Value) (hs:a.eval p=.slice (some ⟨w.heap.size,0,none⟩) 0 0) (hx:a.eval q=.slice (some ad) n c) (h:Row w (some ad) n c 6 cs) (h1:∀ u∈cs,u.oneCell'=true) (hb:n * 80<=140737488351232)
  (hK:∀ A C w',w'.ownsRow w.heap.size 83 6 (.slice A n C) n cs/\Below w.heap.size w w'->wpList prog ops Q rest (a.put o.dst (.slice A n C)) w'):wpList prog ops Q (o :: rest) a (w.alloc (.cells #[] 83)):=by
 refine wpList_plain hg fun _ hK'=>?_;unfold Oper.wp;obtain ⟨A,C,w',hr,h1⟩:=q7V w ad n c cs h h1 hb
 simp[execOp,hop,resolve,invoke,builtin,hs,hx,hty,hr,Result.andThen]
 exact hK' _ _ (hK _ _ _ h1)
theorem j6a:(prog.info? 143).map (fun i=>(i.zero,i.size,i.bytes))=some (some (.agg #[.int .i64 0,.int .i64 0]),2,16):=by kernel_rfl
theorem j2U(w:World)(a:Option Addr)(n c:Nat):(binOp .eql 63 (.slice a n c) (.slice none 0 0)).run prog w=.ok (.bool a.isNone) w:=by
 simp[binOp,run_equal_slice_nil w 63 143 a n c underlying63]
theorem j2j(w:World):(w.alloc (.cells #[] 143)).ownsRow w.heap.size 143 2 (.slice (some ⟨w.heap.size,0,none⟩) 0 0) 0 []:=⟨rfl,.inr ⟨w.heap.size,0,#[],rfl,Nat.le_refl _,heap_alloc_new _ _,Nat.le_refl _,Nat.zero_le _,rfl,rfl⟩⟩
theorem q9C(w:World)(a:Addr)(n c:Nat)(cs:List Value)(h:Row w (some a) n c 2 cs)(h1:∀ u∈cs,u.oneCell'=true)(hb:n * 16<=140737488351232) :
  ∃ A C w',(Builtin.append_ #[63,63] 63 #[.slice (some ⟨w.heap.size,0,none⟩) 0 0,.slice (some a) n c]).run prog (w.alloc (.cells #[] 143))=.ok (.slice A n C) w'/\w'.ownsRow w.heap.size 143 2 (.slice A n C) n cs/\Below w.heap.size w w':=by
 obtain ⟨i0,hi,hz0,hz1,hz2⟩:=info_parts j6a
 have hlt:∀ j u,cs[j]?=some u->(w.alloc (.cells #[] 143)).cell? (a.add j)=some u:=fun j u hj=>by
  have h2:=h.at_ a rfl j u hj;have h3:(a.add j).block<w.heap.size:=World.block_lt_of_cell? w _ h2;rw[((Below.refl w.heap.size w).alloc (Nat.le_refl _) (.cells #[] 143)).cell h3];exact h2
 obtain ⟨v',w',hr,ho,hg,-,hat⟩:=run_append_own_at (P:=prog) (w.alloc (.cells #[] 143)) w.heap.size 63 63 143 i0 _ 2 16 underlying63 hi hz0 hz1 hz2 rfl (by omega) _ 0 [] (j2j w) a n c cs h.len
  hlt h1 (by simp only[maxLen];omega) (by omega) (by simp)
 rw[Nat.zero_add,List.nil_append]at ho
 have hv:∃ A C,v'=.slice A n C:=by
  rcases ho.2 with ⟨rfl,h0⟩ | ⟨g,cap,cur,rfl,_⟩
  ·rw[h0];exact ⟨none,0,rfl⟩
  ·exact ⟨_,_,rfl⟩
 obtain ⟨A,C,rfl⟩:=hv;refine ⟨A,C,w',hr,ho,?_⟩;have hb:=(Below.refl w.heap.size w).alloc (Nat.le_refl _) (.cells #[] 143);exact ⟨hg.os.trans hb.os,hg.tape.trans hb.tape,hg.output.trans hb.output,Nat.le_trans hb.size hg.size,fun k hk=>(hg.block k (by simp;omega) (by simp[Value.ownBlock];omega)).trans (hb.block k hk)⟩
theorem q5t{ops:Array Oper}{rest:List Oper}{o:Oper}{a:Act}{w:World}{Q:Exit->Act->World->Prop}(hg:o.guard=none)(hty:o.type=63)(p q:Operand)
  (hop:o.op=Op.call { callee:=Callee.builtin Builtin.append,args:=#[p,q],argTypes:=#[63,63] }) (ad:Addr) (n c:Nat) (cs:List Value) (hs:a.eval p=.slice (some ⟨w.heap.size,0,none⟩) 0 0) (hx:a.eval q=.slice (some ad) n c) (h:Row w (some ad) n c 2 cs) (h1:∀ u∈cs,u.oneCell'=true) (hb:n * 16<=140737488351232)
  (hK:∀ A C w',w'.ownsRow w.heap.size 143 2 (.slice A n C) n cs/\Below w.heap.size w w'->wpList prog ops Q rest (a.put o.dst (.slice A n C)) w'):wpList prog ops Q (o :: rest) a (w.alloc (.cells #[] 143)):=by
 refine wpList_plain hg fun _ hK'=>?_;unfold Oper.wp;obtain ⟨A,C,w',hr,h1⟩:=q9C w ad n c cs h h1 hb
 simp[execOp,hop,resolve,invoke,builtin,hs,hx,hty,hr,Result.andThen]
 exact hK' _ _ (hK _ _ _ h1)
theorem q3X(A:Option Addr)(n C:Nat)(cs:List Value)(w:World)(h:Row w A n C 2 cs)(h1:∀ u∈cs,u.oneCell'=true)(hb:n * 16<=140737488351232) :
  Calls prog 66 #[.slice A n C] w fun e w'=>∃ A' C',e=.returned (.slice A' n C')/\Rep (fun b=>w.heap.size<=b) w' (.slice A' n C') 2 16 cs/\Below w.heap.size w w':=by
 cases A with
 | none =>
  obtain ⟨rfl,rfl⟩:=h.nil rfl;obtain rfl:cs=[]:=List.length_eq_zero_iff.1 (by rw[h.len])
  have hq:=fun w=>j2U w none 0 0;clear h h1
  go_enter func66,ntmps66
  go_wp2;go_ret;exact ⟨_,_,rfl,Rep.nil _ _ _ _,Below.refl _ _⟩
 | some a =>
  have hq:=fun w=>j2U w (some a) n C;have HH:=hide h;have H1:=hide h1;clear h h1
  go_enter func66,ntmps66
  go_upto_region 3 with fail
  apply wp_region_lit
  iterate 6 go_step
  refine q5t rfl rfl _ _ rfl a n C cs rfl rfl HH.out H1.out hb ?_;rintro A' C' w' ⟨h1,h2⟩;have H1:=hide h1;have H2:=hide h2;clear h1 h2;go_wp2;go_ret;exact ⟨_,_,rfl,Rep.own H1.out hb,H2.out⟩
theorem j6e:(prog.info? 129).map (fun i=>(i.zero,i.size,i.bytes))=some (some (.agg #[.int .i64 0,.int .i64 0]),2,16):=by kernel_rfl
theorem z9X(w:World)(a:Option Addr)(n c:Nat):(binOp .eql 42 (.slice a n c) (.slice none 0 0)).run prog w=.ok (.bool a.isNone) w:=by
 simp[binOp,run_equal_slice_nil w 42 129 a n c underlying42]
theorem z9P(w:World):(w.alloc (.cells #[] 129)).ownsRow w.heap.size 129 2 (.slice (some ⟨w.heap.size,0,none⟩) 0 0) 0 []:=⟨rfl,.inr ⟨w.heap.size,0,#[],rfl,Nat.le_refl _,heap_alloc_new _ _,Nat.le_refl _,Nat.zero_le _,rfl,rfl⟩⟩
theorem z7R(w:World)(a:Addr)(n c:Nat)(cs:List Value)(h:Row w (some a) n c 2 cs)(h1:∀ u∈cs,u.oneCell'=true)(hb:n * 16<=140737488351232) :
  ∃ A C w',(Builtin.append_ #[42,42] 42 #[.slice (some ⟨w.heap.size,0,none⟩) 0 0,.slice (some a) n c]).run prog (w.alloc (.cells #[] 129))=.ok (.slice A n C) w'/\w'.ownsRow w.heap.size 129 2 (.slice A n C) n cs/\Below w.heap.size w w':=by
 obtain ⟨i0,hi,hz0,hz1,hz2⟩:=info_parts j6e
 have hlt:∀ j u,cs[j]?=some u->(w.alloc (.cells #[] 129)).cell? (a.add j)=some u:=fun j u hj=>by
  have h2:=h.at_ a rfl j u hj;have h3:(a.add j).block<w.heap.size:=World.block_lt_of_cell? w _ h2;rw[((Below.refl w.heap.size w).alloc (Nat.le_refl _) (.cells #[] 129)).cell h3];exact h2
 obtain ⟨v',w',hr,ho,hg,-,hat⟩:=run_append_own_at (P:=prog) (w.alloc (.cells #[] 129)) w.heap.size 42 42 129 i0 _ 2 16 underlying42 hi hz0 hz1 hz2 rfl (by omega) _ 0 [] (z9P w) a n c cs h.len
  hlt h1 (by simp only[maxLen];omega) (by omega) (by simp)
 rw[Nat.zero_add,List.nil_append]at ho
 have hv:∃ A C,v'=.slice A n C:=by
  rcases ho.2 with ⟨rfl,h0⟩ | ⟨g,cap,cur,rfl,_⟩
  ·rw[h0];exact ⟨none,0,rfl⟩
  ·exact ⟨_,_,rfl⟩
 obtain ⟨A,C,rfl⟩:=hv;refine ⟨A,C,w',hr,ho,?_⟩;have hb:=(Below.refl w.heap.size w).alloc (Nat.le_refl _) (.cells #[] 129);exact ⟨hg.os.trans hb.os,hg.tape.trans hb.tape,hg.output.trans hb.output,Nat.le_trans hb.size hg.size,fun k hk=>(hg.block k (by simp;omega) (by simp[Value.ownBlock];omega)).trans (hb.block k hk)⟩
theorem z6q{ops:Array Oper}{rest:List Oper}{o:Oper}{a:Act}{w:World}{Q:Exit->Act->World->Prop}(hg:o.guard=none)(hty:o.type=42)(p q:Operand)
  (hop:o.op=Op.call { callee:=Callee.builtin Builtin.append,args:=#[p,q],argTypes:=#[42,42] }) (ad:Addr) (n c:Nat) (cs:List Value) (hs:a.eval p=.slice (some ⟨w.heap.size,0,none⟩) 0 0) (hx:a.eval q=.slice (some ad) n c) (h:Row w (some ad) n c 2 cs) (h1:∀ u∈cs,u.oneCell'=true) (hb:n * 16<=140737488351232)
  (hK:∀ A C w',w'.ownsRow w.heap.size 129 2 (.slice A n C) n cs/\Below w.heap.size w w'->wpList prog ops Q rest (a.put o.dst (.slice A n C)) w'):wpList prog ops Q (o :: rest) a (w.alloc (.cells #[] 129)):=by
 refine wpList_plain hg fun _ hK'=>?_;unfold Oper.wp;obtain ⟨A,C,w',hr,h1⟩:=z7R w ad n c cs h h1 hb
 simp[execOp,hop,resolve,invoke,builtin,hs,hx,hty,hr,Result.andThen]
 exact hK' _ _ (hK _ _ _ h1)
theorem z4D(A:Option Addr)(n C:Nat)(cs:List Value)(w:World)(h:Row w A n C 2 cs)(h1:∀ u∈cs,u.oneCell'=true)(hb:n * 16<=140737488351232) :
  Calls prog 52 #[.slice A n C] w fun e w'=>∃ A' C',e=.returned (.slice A' n C')/\Rep (fun b=>w.heap.size<=b) w' (.slice A' n C') 2 16 cs/\Below w.heap.size w w':=by
 cases A with
 | none =>
  obtain ⟨rfl,rfl⟩:=h.nil rfl;obtain rfl:cs=[]:=List.length_eq_zero_iff.1 (by rw[h.len])
  have hq:=fun w=>z9X w none 0 0;clear h h1
  go_enter func52,ntmps52
  go_wp2;go_ret;exact ⟨_,_,rfl,Rep.nil _ _ _ _,Below.refl _ _⟩
 | some a =>
  have hq:=fun w=>z9X w (some a) n C;have HH:=hide h;have H1:=hide h1;clear h h1
  go_enter func52,ntmps52
  go_upto_region 3 with fail
  apply wp_region_lit
  iterate 6 go_step
  refine z6q rfl rfl _ _ rfl a n C cs rfl rfl HH.out H1.out hb ?_;rintro A' C' w' ⟨h1,h2⟩;have H1:=hide h1;have H2:=hide h2;clear h1 h2;go_wp2;go_ret;exact ⟨_,_,rfl,Rep.own H1.out hb,H2.out⟩
end Wd
namespace Pv
open Go.RowKit
def q1X:Value:=.slice none 0 0
def q1J:PrV:=⟨q1X,q1X,fun _=>⟨q1X,q1X,q1X,q1X⟩,q1X⟩
theorem j3N(P:Nat->Prop)(w:World):PIn P w newP q1J:=
 ⟨Rep.nil _ _ _ _,Rep.nil _ _ _ _,fun _ _=>⟨Rep.nil _ _ _ _,Rep.nil _ _ _ _,z0I.nil _ _ _ _,z0I.nil _ _ _ _⟩,[],rfl,Rep.nil _ _ _ _,fun i _ _ h=>by simp[newP]at h⟩
theorem z5u{fn:Func}{p:Tmp}(h:fn.results=#[.cell p 56])(tmps:Array Value)(w:World)(g:Nat)(cs:Array Value)
  (hp:tmps.getD p undef=.pointer (some ⟨g,0,none⟩)) (hg:CAt 56 w g cs) (hsz:cs.size=97) :
  (results fn tmps).run prog w=.ok (.agg cs) w:=
 results_cell_row h _ _ g 56 cs (0,0) _ hp hg underlying56 rfl (by rw[z2W,hsz])
theorem j1v(w:World):Calls prog 50 #[] w fun e w'=>e=.returned (.agg (prC newP q1J))/\Below w.heap.size w w':=by
 have R0:CAt 56 (w.alloc (.cells zeroCells56 56)) w.heap.size zeroCells56:=CAt.new _ w _;have HB0:Hid (Below w.heap.size w (w.alloc (.cells zeroCells56 56))):=znw w _;have hM:=Mt.q2Y 0 0 (by unfold Mt.I64;omega)
 rw[show Mt.alw 0=1 from rfl,show wrap64 (0+10)=10 by first | rfl | (unfold wrap64;omega) | (unfold wrap64;decide) | (simp[wrap64])]at hM
 go_enter func50,ntmps50
 go_upto_region 1 with fail
 generalize w.alloc (.cells zeroCells56 56)=w0 at *;apply wp_region_lit
 go_step
 go_step
 refine (z4q _).mono ?_;rintro e w1 ⟨rfl,h1⟩;have R1:=R0.over h1;have HB1:=hide (zbt HB0.out h1);clear h1 R0 HB0;dsimp only
 go_step
 go_step
 go_step
 refine (hM _).mono ?_;rintro e w2 ⟨rfl,h2⟩;have R2:=R1.over h2;have HB2:=hide (zbt HB1.out h2);clear h2 R1 HB1 hM;dsimp only
 go_step
 go_step
 go_step
 change Oper.upon prog _ _ _ _ (Result.ok (Next.value (.agg (prC newP q1J))) w2);go_simp;apply_assumption;refine wpList_store_mid rfl 56 _ _ rfl _ 0 (prC newP q1J) rfl rfl (R2.there 0 _ (by rw[z0d,z0b];omega)) (by rw[z2W];rfl) (z0V (j3N (fun _=>True) w2)) ?_
 go_wp2;have R3:=R2.z0s (ds:=prC newP q1J) (by rw[z0d];rfl)
 exact bodyPost_ret (v:=.agg (prC newP q1J)) (z5u results50 _ _ _ _ rfl R3 rfl) rfl ⟨rfl,z0a (Nat.le_refl _) _ _ _ HB2.out⟩
end Pv
namespace Pv
open Go.RowKit
theorem j4h{p:Pr}{v:PrV}(k:Nat)(hk:k<2)(l:List Int)(U:Value) :
  (prC p v).setIfInBounds (66+k * 14+5) U=prC { p with L:=z0X p.L k { p.L k with done:=l } } (v.upd k ⟨(v.l k).told,U,(v.l k).said,(v.l k).due⟩):=by
 match k,hk with
 | 0,_=>rfl
 | 1,_=>rfl
theorem j0g{P:Nat->Prop}{w:World}{p:Pr}{v:PrV}(h:PIn P w p v)(k:Nat)(l:List Int)(U:Value)(h1:Rep P w U 1 8 (inC l)) :
  PIn P w { p with L:=z0X p.L k { p.L k with done:=l } } (v.upd k ⟨(v.l k).told,U,(v.l k).said,(v.l k).due⟩):=by
 refine ⟨h.ws,h.set,fun c hc=>?_,h.q⟩
 show z5r P w (if c=k then _ else p.L c) (if c=k then _ else v.l c)
 by_cases e:c=k
 ·subst e;rw[if_pos rfl,if_pos rfl];have:=h.lk c hc;exact ⟨this.told,h1,this.said,this.due⟩
 ·rw[if_neg e,if_neg e];exact h.lk c hc
theorem PIn.put{P:Nat->Prop}{w:World}{p:Pr}{v:PrV}(h:PIn P w p v){g:Nat}(hg:¬ P g)(o:Nat)(x:Value):PIn P (w.setCell ⟨g,o,none⟩ x) p v:=h.keep fun b hb _=>Below.heap_setCell _ _ _ _ (show b≠g from fun e=>hg (by rw[← e];exact hb))
theorem Rep.put{P:Nat->Prop}{w:World}{v:Value}{sz bts:Nat}{cs:List Value}(h:Rep P w v sz bts cs){g:Nat}(hg:¬ P g)(o:Nat)(x:Value):Rep P (w.setCell ⟨g,o,none⟩ x) v sz bts cs:=h.keep fun b hb _=>Below.heap_setCell _ _ _ _ (show b≠g from fun e=>hg (by rw[← e];exact hb))
theorem Alt.put{g:Nat}{w w':World}(h:Alt g w w')(o:Nat)(x:Value):Alt g w (w'.setCell ⟨g,o,none⟩ x):=⟨h.os,h.tape,h.output,(by simp[World.setCell];exact h.size),fun k hk hn=>(Below.heap_setCell _ _ _ _ hn).trans (h.block k hk hn)⟩
theorem z8y{g:Nat}{p p':Pr}{v':PrV}{P:Nat->Prop}{w w3 w4:World}{c:Nat}(hc:c<2){u:Value}{l:List Int}(hgl:g<w.heap.size)(hg:¬ P g)(hC:CAt 56 w3 g (prC p' v'))(hp:PIn (New P w 0) w3 p' v')(hA:Alt g w w3)(hU:Rep (New (New P w 0) w3 0) w4 u 1 8 (inC l))(hB:Below w3.heap.size w3 w4)
  (hr:p={ p' with L:=z0X p'.L c { p'.L c with done:=l } }) (b:Bool) :
  z4l w g P (p,b) (.returned (.bool b)) (w4.setCell ⟨g,66+c * 14+5,none⟩ u):=by
 subst hr;have hn:¬ New P w 0 g:=z0K hg hgl
 have U2:Rep (New P w 0) w4 u 1 8 (inC l):=hU.mono fun b _ h=>by
  rcases h with ⟨h,_⟩ | h
  ·exact h
  ·exact .inr (by have:=hA.size;omega)
 have C4:=(hC.over hB).set (66+c * 14+5) u;rw[j4h c hc l u]at C4;exact ⟨_,rfl,C4,j0g ((hp.over hB).put hn _ _) c l u (U2.put hn _ _),(hA.trans (Alt.of hB)).put _ _⟩
attribute [local go_sem ↓] z1s z0F z0v z1k
theorem q0Y(g:Nat)(p:Pr)(v:PrV)(P:Nat->Prop)(w:World)(c:Nat)(hc:c<2)(n:Nat)(hn6:n<6)(hC:CAt 56 w g (prC p v))(hp:PIn P w p v)(hg:¬ P g)(hr:z2e (-1) (p.L c).done=true)(hj:(p.s.V n).jail=true) :
  Calls prog 163 #[.pointer (some ⟨g,0,none⟩),.pointer (some ⟨g,66+c * 14,none⟩),.int .i64 (n:Int)] w (z4l w g P ({ p with L:=z0X p.L c { p.L c with done:=z2K (p.L c).done n } },true)):=by
 have HW:=hide (z9e (p.L c).done (v.l c).done (New P w 0) w n (((hp.z2s (Below.refl _ w) 0).lk c hc).done) hr (by omega) (by omega))
 have d3:=(q0G hC hn6).2.1;rw[hj]at d3;have q5:w.cell? ⟨g,66+c * 14+5,none⟩=some (v.l c).done:=(hC.lk hc).facts.2.2.2.2.2.1;have hgl:=hC.lt;have HE:=hide (fun (u:Value) (w2:World) (hU:Rep (New (New P w 0) w 0) w2 u 1 8 (inC (z2K (p.L c).done n))) (hB:Below w.heap.size w w2)=>z8y (p:={ p with L:=z0X p.L c { p.L c with done:=z2K (p.L c).done n } }) hc hgl hg hC (hp.z2s (Below.refl _ w) 0) (Alt.of (Below.refl _ w)) hU hB rfl true)
 obtain ⟨Ad,nd,Cd0,ed⟩:=(hp.lk c hc).done.one';rw[ed]at q5 HW;have hnn:(n:Int)<6:=by omega
 have hnz:(0:Int)<=(n:Int):=by omega
 have HC:=hide hC;clear hC hp hr hj;generalize 66+c * 14=o at *;generalize z2K (p.L c).done n=dl at *
 go_enter func163,ntmps163
 go_wp2_with (go_at_call 178;refine HW.out.mono ?_;rintro e w2 ⟨u,rfl,U2,hb2⟩;have q6:w2.cell? ⟨g,o+5,none⟩=some (.slice Ad nd Cd0):=(hb2.cell (p:=⟨g,o+5,none⟩) hgl).trans q5;have fz:w2.frozen? ⟨g,o+5,none⟩=false:=(HC.out.over hb2).free _;obtain ⟨Au,nu,Cu,rfl⟩:=U2.one';have HU:=hide (show _/\_ from ⟨U2,hb2⟩);clear U2 hb2)
 go_ret;exact HE.out _ _ HU.out.1 HU.out.2
def j8q(F:Nat->Act)(R:Nat->World->Prop)(ex:Exit)(a:Act)(w:World):Prop:=∃ g,ex=Exit.normal/\a=F g/\R g w
theorem j0K{P:Program}{c:Code}{Q:Exit->Act->World->Prop}{a:Act}{w:World}(R:Nat->World->Prop)(F:Nat->Act)(h1:Code.wp P c (j8q F R) a w)(h2:∀ g w',R g w'->Q Exit.normal (F g) w'):Code.wp P c Q a w:=
 Code.wp_mono (fun e a' w' h=>by obtain ⟨g,rfl,rfl,h⟩:=h;exact h2 g w' h) h1
theorem q3W(g:Nat)(p:Pr)(v:PrV)(P:Nat->Prop)(w:World)(c:Nat)(hc:c<2)(n:Nat)(hn6:n<6)(hC:CAt 56 w g (prC p v))(hp:PIn P w p v)(hg:¬ P g)(hr:z2e (-1) (p.L c).done=true)(hgs:z0k p.s=true)(hj:(p.s.V n).jail=false)(ht0:0<=(p.s.V n).tok)(ht1:(p.s.V n).tok<=1125899906842624) :
  Calls prog 163 #[.pointer (some ⟨g,0,none⟩),.pointer (some ⟨g,66+c * 14,none⟩),.int .i64 (n:Int)] w (z4l w g P (if p.ml<1 then (p,false) else ({ p with ml:=wrap64 (p.ml - j4k (p.s.V n)),s:=z6s p.s n true (p.s.V n).dead,L:=z0X p.L c { p.L c with done:=z2K (p.L c).done n } },true))):=by
 generalize hD:(if p.ml<1 then (p,false) else (_,true):Pr×Bool)=D;have HD:=hide hD;clear hD;have d3:=(q0G hC hn6).2.1;rw[hj]at d3;have hgl:=hC.lt;have hnn:(n:Int)<6:=by omega
 have hnz:(0:Int)<=(n:Int):=by omega
 have HS3:Hid (∀ wx,Below w.heap.size w wx->wx.cell? ⟨g,94,none⟩=some (.int .i64 p.ml)/\wx.cell? ⟨g,94+1,none⟩=some (.int .i64 p.mn)/\wx.cell? ⟨g,9+n * 5,none⟩=some (.int .i64 (p.s.V n).tok)):=fun wx hb=>⟨(hC.over hb).cell 94,(hC.over hb).cell 95,(q0G (hC.over hb) hn6).1⟩;have HPW:Hid (j4k (p.s.V n)=if (p.s.V n).tok / 100<1 then 1 else (p.s.V n).tok / 100):=rfl;generalize j4k (p.s.V n)=pw at *;have HT:=hide (fun (wx:World)=>Mt.q9a p.ml p.mn pw wx);have HQ:Hid (∀ wx,Below w.heap.size w wx->z4l w g P (p,false) (.returned (.bool false)) wx):=fun wx hb=>⟨v,rfl,hC.over hb,hp.z2s hb 0,Alt.of hb⟩;generalize hA:(if p.ml<1 then p.ml else wrap64 (p.ml - pw))=ml' at *;generalize hB:(if p.ml<1 then false else true)=may at *;generalize (p.s.V n).tok=tk at *;have hq:IntKind.i64.wrap (tk.tdiv 100)=tk / 100:=by rw[Int.tdiv_eq_ediv_of_nonneg ht0];exact z7V (by omega) (by omega)
 go_enter func163,ntmps163
 go_upto_region 3 with fail
 have HAL:Hid (Below w.heap.size w (w.alloc (.cells #[.int .i64 0,.int .i64 0] 53))):=znw w _;have HALd:=hide HAL.out.drew;have hmax:(if tk / 100<1 then 1 else tk / 100)=pw:=HPW.out.symm;have HAC:Hid (CAt 53 (w.alloc (.cells #[.int .i64 0,.int .i64 0] 53)).drew w.heap.size #[.int .i64 0,.int .i64 0]):=CAt.new 53 w _;apply j0K (fun gm w'=>CAt 53 w' gm #[.int .i64 ml',.int .i64 p.mn]/\w.heap.size<=gm/\Below w.heap.size w w')
 ·refine wp_region_noPanic ?_;have hb:=Below.refl w.heap.size w
  go_region_held3 (fun wx=>wx.cell? ⟨g,94,none⟩=some (.int .i64 p.ml)/\wx.cell? ⟨g,94+1,none⟩=some (.int .i64 p.mn)/\wx.cell? ⟨g,9+n * 5,none⟩=some (.int .i64 tk)) ((refine HS3.out _ ?_;first | with_reducible exact hb | with_reducible exact hb.drew | with_reducible exact hb.alloc hb.size _ | with_reducible exact (hb.alloc hb.size _).drew | with_reducible exact hb.drew.alloc hb.drew.size _ | exact (hb.setCell (Nat.le_refl _) _).setCell (Nat.le_refl _) _ | exact ((hb.alloc hb.size _).setCell hb.size _).setCell hb.size _)) (first
   | (go_at_call 176;refine (HT.out w.drew).mono ?_;rintro e wb ⟨rfl,hbb⟩;have hb:=(Below.refl w.heap.size w).drew.trans hbb;have HN1:True:=trivial;clear hbb;dsimp only)
   | (go_at_call 176;refine (HT.out (w.alloc (.cells #[.int .i64 0,.int .i64 0] 53)).drew).mono ?_;rintro e wb ⟨rfl,hbb⟩;have hb:=zbt HALd.out hbb;have HCb:=hide (HAC.out.over hbb);have z0:=HCb.out.cell 0;have z1:wb.cell? ⟨w.heap.size,0+1,none⟩=_:=HCb.out.cell 1;have zf0:=HCb.out.free 0;have zf1:=HCb.out.free (0+1);clear hbb;dsimp only))
  all_goals first
   | (have _m:=HN1;obtain ⟨gn,hg'⟩:∃ gn,gn=wb.heap.size:=⟨_,rfl⟩;rw[← hg'];exact NoPanic.normal ⟨gn,rfl,rfl,by subst hg';exact ⟨CAt.new _ _ _,hb.size,hb.alloc hb.size _⟩⟩)
   | (obtain ⟨gn,hg'⟩:∃ gn,gn=w.heap.size:=⟨_,rfl⟩;rw[← hg'];exact NoPanic.normal ⟨gn,rfl,rfl,by subst hg';exact ⟨(HCb.out.set 0 _).set 1 _,Nat.le_refl _,(hb.setCell (Nat.le_refl _) _).setCell (Nat.le_refl _) _⟩⟩)
 rintro gm w3 ⟨M3,hgm,B3⟩;have HB3:=hide B3;have HM3:=hide M3;have m0:w3.cell? ⟨gm,0,none⟩=some (.int .i64 ml'):=M3.cell 0;have m1:w3.cell? ⟨gm,0+1,none⟩=some (.int .i64 p.mn):=M3.cell 1;clear HAL HALd HAC hmax HT HS3 d3 B3 M3;simp only[Exit.then];apply_assumption
 by_cases hml:p.ml<1
 ·rw[if_pos hml]at hB;subst hB;have HD':=hide (HD.out.symm.trans (if_pos hml));clear HD;go_wp2;go_ret;rw[HD'.out];exact HQ.out _ HB3.out
 ·rw[if_neg hml]at hA hB;subst hB;have HD':=hide (HD.out.symm.trans (if_neg hml));clear HD HQ;have C3:=hC.over HB3.out;have e94:w3.cell? ⟨g,94,none⟩=some (.int .i64 p.ml):=C3.cell 94;have e95:w3.cell? ⟨g,94+1,none⟩=some (.int .i64 p.mn):=C3.cell 95;have z94:=C3.free 94;have z95:=C3.free (94+1);have hgl3:=C3.lt;have hgmg:¬ gm=g:=by omega
  have HHP:=hide hp;have HHR:=hide hr;have HHG:=hide hg;have HHS:=hide hgs;have HHJ:=hide hj;have HC3:=hide C3;have HAA:=hide hA;clear hC hp hr hgs hj C3 hA hg hml
  go_upto_region 7 with fail
  have C4:CAt 56 ((w3.setCell ⟨g,94,none⟩ (.int .i64 ml')).setCell ⟨g,95,none⟩ (.int .i64 p.mn)) g (prC { p with ml:=ml' } v):=(HC3.out.set 94 _).set 95 _
  have A4:Alt g w ((w3.setCell ⟨g,94,none⟩ (.int .i64 ml')).setCell ⟨g,95,none⟩ (.int .i64 p.mn)):=((Alt.of (g:=g) HB3.out).put 94 _).put 95 _
  have P4:PIn (New P w 0) ((w3.setCell ⟨g,94,none⟩ (.int .i64 ml')).setCell ⟨g,95,none⟩ (.int .i64 p.mn)) { p with ml:=ml' } v:=by
   have:=((HHP.out.z2s HB3.out 0).put (z0K HHG.out hgl) 94 (.int .i64 ml')).put (z0K HHG.out hgl) 95 (.int .i64 p.mn);exact ⟨this.ws,this.set,this.lk,this.q⟩
  clear e94 e95 z94 z95 m0 m1 HM3 HC3 HB3;generalize (w3.setCell ⟨g,94,none⟩ (.int .i64 ml')).setCell ⟨g,95,none⟩ (.int .i64 p.mn)=w4 at *
  have hj4:z9i p.s (n:Int)=(z6s p.s n true (p.s.V n).dead,0):=by
   unfold z9i;rw[if_pos (z3E HHS.out hn6),Int.toNat_natCast,if_neg (by rw[HHJ.out];simp)]
  have hjl:=j5d P4.ws (n:Int);dsimp only at hjl;rw[hj4]at hjl;have HJL:=hide hjl;have m4:=z1Z C4;have HSW:Hid ((z6s p.s n true (p.s.V n).dead).W=p.s.W):=rfl;generalize hS1:z6s p.s n true (p.s.V n).dead=s1 at *;have HS1:=hide hS1;have hgl4:=C4.lt;have hone:=z5v s1 P4.ws.one';have H4:=hide (show _/\_/\_ from ⟨C4,P4,A4⟩);clear C4 P4 A4 hjl hj4 hS1
  go_upto_region 8 with (go_at_call 177;refine HJL.out.mono ?_;rintro e w5 ⟨rfl,hb5⟩;clear m4;have sS5:=z2B (H4.out.1.over hb5) (z0b _ _) (z0e s1 v.ws) hone)
  have C6:=(H4.out.1.over hb5).z0Z s1 v.ws;have A6:=(H4.out.2.2.trans (Alt.of hb5)).sets (stC s1 v.ws).toList 2;have P6:=(H4.out.2.1.over hb5).sets (g:=g) (z0K HHG.out hgl) 2 (stC s1 v.ws).toList;have P6':PIn (New P w 0) (w5.setCells g 2 (stC s1 v.ws).toList) { p with ml:=ml',s:=s1 } v:=⟨by rw[show ({ p with ml:=ml',s:=s1 }:Pr).s.W=p.s.W from HSW.out];exact P6.ws,P6.set,P6.lk,P6.q⟩
  clear sS5 hb5 HJL H4 P6;generalize w5.setCells g 2 (stC s1 v.ws).toList=w6 at *;have HW:=hide (z9e (p.L c).done (v.l c).done (New P w 0) w6 n ((P6'.lk c hc).done) HHR.out (by omega) (by omega))
  have q5:w6.cell? ⟨g,66+c * 14+5,none⟩=some (v.l c).done:=(C6.lk hc).facts.2.2.2.2.2.1;obtain ⟨Ad,nd,Cd0,ed⟩:=(P6'.lk c hc).done.one';rw[ed]at q5 HW;have hgl6:=C6.lt;have HE:=hide (fun (u:Value) (w2:World) (hU:Rep (New (New P w 0) w6 0) w2 u 1 8 (inC (z2K (p.L c).done n))) (hB:Below w6.heap.size w6 w2)=>z8y (p:={ p with ml:=ml',s:=s1,L:=z0X p.L c { p.L c with done:=z2K (p.L c).done n } }) hc hgl HHG.out C6 P6' A6 hU hB rfl true)
  have HC6:=hide C6;have HDD:Hid (D=({ p with ml:=ml',s:=s1,L:=z0X p.L c { p.L c with done:=z2K (p.L c).done n } },true)):=by rw[Hid,HD'.out,HAA.out]
  clear HD' HS1 HAA C6 P6' A6 ed;generalize 66+c * 14=o at *;generalize z2K (p.L c).done n=dl at *
  go_wp2_with (go_at_call 178;refine HW.out.mono ?_;rintro e w7 ⟨u,rfl,U2,hb2⟩;have q6:w7.cell? ⟨g,o+5,none⟩=some (.slice Ad nd Cd0):=(hb2.cell (p:=⟨g,o+5,none⟩) hgl6).trans q5;have fz:w7.frozen? ⟨g,o+5,none⟩=false:=(HC6.out.over hb2).free _;obtain ⟨Au,nu,Cu,rfl⟩:=U2.one';have HU:=hide (show _/\_ from ⟨U2,hb2⟩);clear U2 hb2)
  go_ret;rw[HDD.out];exact HE.out _ _ HU.out.1 HU.out.2
theorem j8g{s:St}(hg:z0k s=true){n:Nat}(hn:n<6):0<=(s.V n).tok/\(s.V n).tok<=1125899906842624:=((z1R _).1 (((z0N s).1 hg).2.2.2.2.2.1 n hn).1).1
theorem q7U(g:Nat)(p:Pr)(v:PrV)(P:Nat->Prop)(w:World)(c:Nat)(hc:c<2)(x:Pkt)(hC:CAt 56 w g (prC p v))(hp:PIn P w p v)(hg:¬ P g)(hk:x.k=3)(hr:z2e (-1) (p.L c).done=true)(hgs:z0k p.s=true)(h0:0<=x.v)(h6:x.v<6) :
  Calls prog 163 #[.pointer (some ⟨g,0,none⟩),.pointer (some ⟨g,66+c * 14,none⟩),.int .i64 x.v] w (z4l w g P (z1C p c x)):=by
 obtain ⟨n,hn,hn6⟩:∃ n:Nat,x.v=(n:Int)/\n<6:=⟨x.v.toNat,by omega,by omega⟩
 unfold z1C;rw[if_neg (by omega),if_neg (by omega),hn,Int.toNat_natCast]
 cases hj:(p.s.V n).jail
 ·rw[if_neg (by simp)]
  exact q3W g p v P w c hc n hn6 hC hp hg hr hgs hj (j8g hgs hn6).1 (j8g hgs hn6).2
 ·rw[if_pos rfl];exact q0Y g p v P w c hc n hn6 hC hp hg hr hj
end Pv
namespace Pv
open Go.RowKit
structure j6N(P:Nat->Prop)(w wl:World)(lv:Value)(l:List (Int×Pkt))(z:List (Value×Value)):Prop where
 len:z.length=l.length
 own:wl.ownsRow (w.heap.size+1) 115 7 lv l.length (quL l z)
 ins:∀ (i:Nat) (x:Int×Pkt) (y:Value×Value),l[i]?=some x->z[i]?=some y->Rep P w y.1 2 16 (pwC x.2.S)/\Rep P w y.2 1 8 (inC x.2.D)
theorem q3y(w:World)(x:Int×Pkt)(y:Value×Value)(t:TypeId):∀ j u,(akL x y)[j]?=some u->(w.alloc (.cells #[.int .i64 x.1,.int .i64 x.2.k,.int .i64 x.2.i,.int .i64 x.2.v,.int .i64 x.2.n,y.1,y.2] t)).cell? ((⟨w.heap.size,0,none⟩:Addr).add j)=some u:=fun j u hu=>by
 rw[Addr.add_lit,Nat.zero_add];have h:=(CAt.new t w #[.int .i64 x.1,.int .i64 x.2.k,.int .i64 x.2.i,.int .i64 x.2.v,.int .i64 x.2.n,y.1,y.2]).cell j;rw[h]
 simpa [akL] using hu
theorem q4x(z:QS)(a:Int×Pkt):(z2i z a).left.length<=z.left.length+1:=by
 unfold z2i
 split
 ·simp
 ·split
  ·simp
  ·simp
theorem q4j{p:Pr}{c:Nat}{x:Pkt}(h:(z1C p c x).2=false):(z1C p c x).1=p:=by
 unfold z1C at *
 repeat' split at h
 all_goals first | (cases h;done) | skip
 all_goals simp_all
theorem j7B(p:Pr)(c:Nat)(x:Pkt):(z1C p c x).1.q=p.q:=by
 unfold z1C
 repeat' split
 all_goals rfl
theorem z9x:∀ (l:List (Int×Pkt)) (z:QS),(l.foldl z2i z).p.q=z.p.q/\(l.foldl z2i z).left.length<=z.left.length+l.length
 | [],z=>⟨rfl,Nat.le_refl _⟩
 | a :: l,z=>by
  have h:=z9x l (z2i z a);rw[List.foldl_cons];refine ⟨h.1.trans ?_,by have:=q4x z a;rw[List.length_cons];omega⟩
  unfold z2i
  split
  ·rfl
  ·split
   ·exact j7B _ _ _
   ·rfl
structure QuR(Inv:Pr->Prop)(P:Nat->Prop)(w:World)(g:Nat)(s:QS)(lv:Value)(wl:World):Prop where
 st:∃ (v:PrV) (Q:Nat->Prop),CAt 56 wl g (prC s.p v)/\PIn Q wl s.p v/\(∀ b,Q b->New P w 0 b)/\¬ Q g/\¬ Q w.heap.size/\(∀ r,lv.ownBlock=some r->¬ Q r)
 wt:CAt 206 wl w.heap.size #[.bool (s.wt 0),.bool (s.wt 1)]
 lf:∃ z,j6N P w wl lv s.left z
 A:Alt g w wl
 inv:Inv s.p
theorem Alt.past{g:Nat}{w w':World}(h:Alt g w w'){b:Nat}(hb:w.heap.size<=b)(o:Nat)(x:Value):Alt g w (w'.setCell ⟨b,o,none⟩ x):=
 ⟨h.os,h.tape,h.output,(by simp[World.setCell];exact h.size),fun k hk hn=>(Below.heap_setCell _ _ _ _ (show k≠b by omega)).trans (h.block k hk hn)⟩
theorem QuR.wait{Inv:Pr->Prop}{P:Nat->Prop}{w w8 w9:World}{g:Nat}{s:QS}{lv v':Value}{v7:PrV}{Q:Nat->Prop}{z5:List (Value×Value)}{wt':Nat->Bool}{x:Int×Pkt}{y:Value×Value}{ob:Obj}
  (hgw:g<w.heap.size) (C8:CAt 56 w8 g (prC s.p v7)) (P8:PIn Q w8 s.p v7) (hq1:∀ b,Q b->New P w 0 b) (hq2:¬ Q g) (hq3:¬ Q w.heap.size) (hq4:∀ r,lv.ownBlock=some r->¬ Q r) (W8:CAt 206 w8 w.heap.size #[.bool (wt' 0),.bool (wt' 1)])
  (O8:w8.ownsRow (w.heap.size+1) 115 7 lv s.left.length (quL s.left z5)) (hl:z5.length=s.left.length) (hi:∀ (i:Nat) (x:Int×Pkt) (y:Value×Value),s.left[i]?=some x->z5[i]?=some y->Rep P w y.1 2 16 (pwC x.2.S)/\Rep P w y.2 1 8 (inC x.2.D)) (A8:Alt g w w8) (I8:Inv s.p)
  (hin:Rep P w y.1 2 16 (pwC x.2.S)/\Rep P w y.2 1 8 (inC x.2.D)) (ho:w9.ownsRow (w.heap.size+1) 115 7 v' (s.left.length+1) (quL s.left z5 ++ akL x y)) (hg:(w8.alloc ob).grownBy w9 lv.ownBlock) (hat:v'.ownBlock=lv.ownBlock∨v'.ownBlock=some (w8.alloc ob).heap.size) :
  QuR Inv P w g { s with wt:=wt',left:=s.left ++ [x] } v' w9:=by
 have bA:Below w8.heap.size w8 (w8.alloc ob):=znw w8 _;have hsz:=bA.size;have hown:∀ r,lv.ownBlock=some r->w.heap.size+1<=r/\r<w8.heap.size:=fun r e=>World.ownsRow.lt O8 r e;have C9:CAt 56 w9 g (prC s.p v7):=(hg.block g (Nat.lt_of_lt_of_le C8.lt hsz) (fun e=>by have:=(hown g e.symm).1;omega)).trans (C8.over bA)
 have W9:CAt 206 w9 w.heap.size #[.bool (wt' 0),.bool (wt' 1)]:=(hg.block w.heap.size (Nat.lt_of_lt_of_le W8.lt hsz) (fun e=>by have:=(hown _ e.symm).1;omega)).trans (W8.over bA)
 have hne:∀ b,b<w8.heap.size->Q b->some b≠v'.ownBlock:=fun b hb hq e=>by
  rcases hat with h | h
  ·exact hq4 b (by rw[← h,e]) hq
  ·rw[h]at e;cases e;omega
 have P9:PIn (fun b=>Q b/\some b≠v'.ownBlock) w9 s.p v7:=((P8.mono (P':=fun b=>(Q b/\some b≠v'.ownBlock)) fun b hl' hb=>⟨hb,hne b hl' hb⟩).over bA).keep fun b hb hlt=>hg.block b hlt fun e=>hq4 b e.symm hb.1;refine ⟨⟨v7,_,C9,P9,fun b h=>hq1 b h.1,fun h=>hq2 h.1,fun h=>hq3 h.1,fun r e h=>h.2 e.symm⟩,W9,⟨z5 ++ [y],by simp[hl],?_,fun i a b ha hb=>?_⟩,?_,I8⟩
 ·rw[q1x s.left z5 x y hl,List.length_append];exact ho
 ·by_cases h:i<s.left.length
  ·rw[List.getElem?_append_left h]at ha;rw[List.getElem?_append_left (by rw[hl];exact h)]at hb
   exact hi i a b ha hb
  ·rw[List.getElem?_append_right (by omega)]at ha
   rw[List.getElem?_append_right (by rw[hl];omega),hl]at hb
   rcases Nat.eq_zero_or_pos (i - s.left.length) with h0 | h0
   ·rw[h0]at ha hb
    simp at ha hb
    subst ha hb;exact hin
   ·rw[List.getElem?_eq_none (by simp;omega)]at ha
    cases ha
 ·exact ⟨hg.os.trans A8.os,hg.tape.trans A8.tape,hg.output.trans A8.output,Nat.le_trans A8.size (Nat.le_trans hsz hg.size),fun k hk hn=>((hg.block k (by have:=A8.size;omega) (fun e=>by have:=(hown k e.symm).1;omega)).trans (bA.block k (by have:=A8.size;omega))).trans (A8.block k hk hn)⟩
theorem j8i(p:Pr)(v:PrV)(l:List (Int×Pkt))(x:Value):(prC p v).setIfInBounds 96 x=prC { p with q:=l } { v with q:=x }:=rfl
theorem j2Y(f:Nat->Bool){m:Nat}(hm:m<2):(#[.bool (f 0),.bool (f 1)]:Array Value).setIfInBounds m (.bool true)=#[.bool ((fun i=>if i=m then true else f i) 0),.bool ((fun i=>if i=m then true else f i) 1)]:=by
 rcases (show m=0∨m=1 by omega) with rfl | rfl <;> rfl
theorem q6Y(Inv:Pr->Prop)(g:Nat)(p:Pr)(v:PrV)(P:Nat->Prop)(w:World)(hC:CAt 56 w g (prC p v))(hp:PIn P w p v)(hg:¬ P g)(h0:Inv p)(hq88:p.q.length * 88<=140737488355328)(hq:∀ a∈p.q,0<=a.1/\a.1<2)
  (HDL:∀ a∈p.q,∀ (p':Pr) (v':PrV) (P':Nat->Prop) (wx:World) (y1 y2:Value),Inv p'->CAt 56 wx g (prC p' v')->PIn P' wx p' v'->¬ P' g->Calls prog 135 #[.pointer (some ⟨g,0,none⟩),.agg #[.int .i64 a.1,.int .i64 a.2.k,.int .i64 a.2.i,.int .i64 a.2.v,.int .i64 a.2.n,y1,y2]] wx (z4l wx g P' (z1C p' a.1.toNat a.2)))
  (hI:∀ a∈p.q,∀ p',Inv p'->Inv (z1C p' a.1.toNat a.2).1) :
  Calls prog 109 #[.pointer (some ⟨g,0,none⟩)] w (Turns w g P (z0M p)):=by
 obtain ⟨i0,hi,hz0,hz1,hz2⟩:=info_parts q9r;have hgl:=hC.lt;have hQP:z0M p={ (goQ p).p with q:=(goQ p).left }:=rfl
 have hGO:goQ p=p.q.foldl z2i ⟨p,fun _=>false,[]⟩:=rfl;generalize z0M p=D at *;generalize goQ p=G at *;obtain ⟨z,hzl,hzr,hzi⟩:=id hp.q;obtain ⟨Aq,Cq,eq,sq,-,cq,-⟩:=hzr.open (z1y _ _ hzl) (by decide)
 have HZL:=hide hzl;have HZI:=hide hzi;have HCQ:=hide cq;have hqlen:p.q.length<=1759218604390:=by omega
 have HHQ:=hide hq;have HDD:=hide HDL;have HII:=hide hI;have HQP:=hide hQP;have HGO:=hide hGO;have B0:Below w.heap.size w (w.alloc (.cells #[.bool false,.bool false] 206)):=znw w _;have H0:Hid (QuR Inv P w g ⟨p,fun _=>false,[]⟩ (.slice none 0 0) (w.alloc (.cells #[.bool false,.bool false] 206))):=⟨⟨v,fun b=>P b/\b<w.heap.size,hC.over B0,(hp.mono fun b hl h=>⟨h,hl⟩).over B0,fun b h=>.inl h,fun h=>hg h.1,fun h=>by have:=h.2;omega,fun r e=>by cases e⟩,CAt.new _ _ _,⟨[],rfl,World.ownsRow_nil _ _ _ _,fun i x y h=>by cases h⟩,Alt.of B0,h0⟩
 clear hzl hzi hzr cq hq HDL hI hQP hGO B0 h0 sq
 go_enter func109,ntmps109
 go_upto_region 2 with fail
 have c96:(w.alloc (.cells #[.bool false,.bool false] 206)).cell? ⟨g,96,none⟩=some (.slice Aq p.q.length Cq):=by rw[← eq];exact (hC.alloc _).cell 96
 generalize w.alloc (.cells #[.bool false,.bool false] 206)=w0 at *
 go_upto_region 3 with fail
 clear c96 eq
 go_loopw [3,11] (fun lv i wl=>∃ (k:Nat),k<=p.q.length/\i=.int .i64 (k:Int)/\Hid (QuR Inv P w g ((p.q.take k).foldl z2i ⟨p,fun _=>false,[]⟩) lv wl)) (fun _ i _=>p.q.length - (intOf i).toNat)
 case atStart=>exact ⟨0,Nat.zero_le _,rfl,H0⟩
 case round =>
  obtain ⟨k,hk,rfl,HR⟩:=hrel
  by_cases hlt:k<p.q.length
  ·have hkI:(k:Int)<(p.q.length:Int):=by omega
   have hk0:(0:Int)<=(k:Int):=by omega
   have hx:p.q[k]?=some p.q[k]:=List.getElem?_eq_getElem hlt;have hzk:k<z.length:=by rw[HZL.out];exact hlt
   have hy:z[k]?=some z[k]:=List.getElem?_eq_getElem hzk;have hin:=HZI.out k _ _ hx hy;have hmem:p.q[k]∈p.q:=List.getElem_mem hlt;have hst:(p.q.take (k+1)).foldl z2i ⟨p,fun _=>false,[]⟩=z2i ((p.q.take k).foldl z2i ⟨p,fun _=>false,[]⟩) p.q[k]:=by rw[List.take_succ_eq_append_getElem hlt,List.foldl_append];rfl
   have hll:=(z9x (p.q.take k) ⟨p,fun _=>false,[]⟩).2;rw[List.length_take,Nat.min_eq_left hk]at hll;have HST:=hide hst;have hdl:=HDD.out _ hmem;have hii:=HII.out _ hmem;have hqq:=HHQ.out _ hmem;generalize (p.q.take k).foldl z2i ⟨p,fun _=>false,[]⟩=s at *;have hlen1:s.left.length+1<=p.q.length:=by simp at hll;omega
   obtain ⟨bq,oq,rfl,hPb,hbl,hcell⟩:=HCQ.out (by omega)
   have hbg:bq≠g:=fun e=>hg (e ▸ hPb)
   have hc:∀ j,j<7->∀ u,(akL p.q[k] z[k])[j]?=some u->wr.cell? ⟨bq,oq+k * 7+j,none⟩=some u:=fun j hj u hu=>by
    rw[World.cell?_of_block (w:=w) (a:=⟨bq,oq+k * 7+j,none⟩) (HR.out.A.block bq hbl hbg),Nat.add_assoc];exact hcell _ _ ((z5L p.q z k _ _ j hx hy hj).trans hu)
   have e0:=hc 0 (by omega) _ rfl
   have e1:=hc 1 (by omega) _ rfl
   have e2:=hc 2 (by omega) _ rfl
   have e3:=hc 3 (by omega) _ rfl
   have e4:=hc 4 (by omega) _ rfl
   have e5:=hc 5 (by omega) _ rfl
   have e6:=hc 6 (by omega) _ rfl
   rw[Nat.add_zero]at e0;generalize p.q[k]=x at *;generalize z[k]=y at *;obtain ⟨y1,y2⟩:=y;dsimp only at hin e5 e6;obtain ⟨⟨B1,n1,D1,ey1,-⟩,⟨B2,n2,D2,ey2,-⟩⟩:=id hin;subst ey1 ey2;obtain ⟨x1,x2⟩:=x;dsimp only at hqq hdl hii hin e0 e1 e2 e3 e4;obtain ⟨m,rfl⟩:∃ m:Nat,x1=(m:Int):=⟨x1.toNat,by omega⟩
   have hm2:m<2:=by omega
   have hmI:(m:Int)<2:=by omega
   have hm0:(0:Int)<=(m:Int):=by omega
   rw[Int.toNat_natCast]at hdl hii;have HIN:=hide hin;have HDL1:=hide hdl;have HII1:=hide hii;have bA:Below wr.heap.size wr (wr.alloc (.cells #[.int .i64 (m:Int),.int .i64 x2.k,.int .i64 x2.i,.int .i64 x2.v,.int .i64 x2.n,.slice B1 n1 D1,.slice B2 n2 D2] 115)):=znw wr _;have K5:=CAt.new 115 wr #[.int .i64 (m:Int),.int .i64 x2.k,.int .i64 x2.i,.int .i64 x2.v,.int .i64 x2.n,.slice B1 n1 D1,.slice B2 n2 D2];clear hc hcell hx hy hin hdl hii hst hmem hbl hPb hbg hqq
   go_upto_region 5 with fail
   clear e0 e1 e2 e3 e4 e5 e6;obtain ⟨w5,ew5⟩:∃ w5,w5=wr.alloc (.cells #[.int .i64 (m:Int),.int .i64 x2.k,.int .i64 x2.i,.int .i64 x2.v,.int .i64 x2.n,.slice B1 n1 D1,.slice B2 n2 D2] 115):=⟨_,rfl⟩;rw[← ew5]at K5 bA;rw[← ew5];clear ew5;obtain ⟨⟨v5,Q,C5,P5,hq1,hq2,hq3,hq4⟩,W5,⟨z5,L5⟩,A5,I5⟩:=HR.out;have hzr0:w.heap.size<wr.heap.size:=W5.lt;have C6:=C5.over bA;have P6:=P5.over bA;have W6:=W5.over bA;have A6:=A5.trans (Alt.of bA);have O6:=Ln.z9h L5.own bA;have hz5:=bA.size;have hgw:=hgl;have k0:w5.cell? ⟨wr.heap.size,0,none⟩=some (.int .i64 (m:Int)):=K5.cell 0;have k1:w5.cell? ⟨wr.heap.size,1,none⟩=some (.int .i64 x2.k):=K5.cell 1;have k2:w5.cell? ⟨wr.heap.size,2,none⟩=some (.int .i64 x2.i):=K5.cell 2;have k3:w5.cell? ⟨wr.heap.size,3,none⟩=some (.int .i64 x2.v):=K5.cell 3;have k4:w5.cell? ⟨wr.heap.size,4,none⟩=some (.int .i64 x2.n):=K5.cell 4;have k5:w5.cell? ⟨wr.heap.size,5,none⟩=some (.slice B1 n1 D1):=K5.cell 5;have k6:w5.cell? ⟨wr.heap.size,6,none⟩=some (.slice B2 n2 D2):=K5.cell 6
   have aW:w5.cell? ⟨w.heap.size,m,none⟩=some (.bool (s.wt m)):=by
    rw[W6.cell m]
    rcases (show m=0∨m=1 by omega) with rfl | rfl <;> rfl
   have HDC:=hide (HDL1.out s.p v5 Q w5 (.slice B1 n1 D1) (.slice B2 n2 D2) I5 C6 P6 hq2)
   have hstep:z2i s ((m:Int),x2)=if s.wt m=true then { s with left:=s.left ++ [((m:Int),x2)] } else if (z1C s.p m x2).2=true then { s with p:=(z1C s.p m x2).1 } else { s with wt:=fun i=>if i=m then true else s.wt i,left:=s.left ++ [((m:Int),x2)] }:=by
    unfold z2i;rw[Int.toNat_natCast]
   have HSP:=hide hstep;have HID:=hide (HII1.out s.p I5);have HDF:=hide (fun h=>q4j (p:=s.p) (c:=m) (x:=x2) h);have H6:=hide (show _/\_/\_/\_/\_/\_/\_ from ⟨C6,P6,W6,A6,O6,K5,I5⟩);have HL5:=hide (show _/\_ from ⟨L5.len,L5.ins⟩);have HQS:=hide (show _/\_/\_/\_ from ⟨hq1,hq2,hq3,hq4⟩);clear C5 P5 W5 A5 L5 I5 C6 P6 W6 A6 O6 K5 hq1 hq2 hq3 hq4 hstep HR bA HDL1 HII1;generalize z1C s.p m x2=dl at *;obtain ⟨p',b'⟩:=dl;dsimp only at HSP HID HDF HDC;cases hwt:s.wt m
   ·rw[hwt]at aW;replace HSP:=hide (HSP.out.trans (if_neg (by simp[hwt])))
    cases b'
    ·
     replace HSP:=hide (HSP.out.trans (if_neg (by simp)))
     have e:=HDF.out rfl;subst e
     go_upto_region 6 with (go_at_call 135;refine HDC.out.mono ?_;rintro e w7 ⟨v7,rfl,C7,P7,A7⟩;dsimp only at C7 P7;have HD7:=hide (show _/\_/\_ from ⟨C7,P7,A7⟩);clear C7 P7 A7;dsimp only)
     have hz7:w5.heap.size<=w7.heap.size:=HD7.out.2.2.size
     have HQ7:Hid ((∀ b,New Q w5 0 b->New P w 0 b)/\¬ New Q w5 0 g/\¬ New Q w5 0 w.heap.size/\∀ r,u3.ownBlock=some r->¬ New Q w5 0 r):=by
      obtain ⟨hq1,hq2,hq3,hq4⟩:=HQS.out;refine ⟨fun b h=>?_,z0K hq2 (by omega),z0K hq3 (by omega),fun r e=>z0K (hq4 r e) (by have:=(World.ownsRow.lt H6.out.2.2.2.2.1 r e).2;omega)⟩
      rcases h with ⟨h,_⟩ | h
      ·exact hq1 b h
      ·exact .inr (by omega)
     have HW7:=hide (show _/\_/\_/\_/\_/\_ from ⟨HD7.out.1,HD7.out.2.1,HD7.out.2.2.cat (by omega) H6.out.2.2.1,Ln.z1i H6.out.2.2.2.2.1 fun r e=>HD7.out.2.2.block r (World.ownsRow.lt H6.out.2.2.2.2.1 r e).2 (by have:=(World.ownsRow.lt H6.out.2.2.2.2.1 r e).1;omega),HD7.out.2.2.cat (b:=wr.heap.size) (by omega) H6.out.2.2.2.2.2.1,H6.out.2.2.2.1.trans HD7.out.2.2⟩)
     clear HD7 HDC
     have aW7:w7.cell? ⟨w.heap.size,m,none⟩=some (.bool (s.wt m)):=by
      rw[HW7.out.2.2.1.cell m]
      rcases (show m=0∨m=1 by omega) with rfl | rfl <;> rfl
     have f7:=HW7.out.2.2.1.free m;have j0:w7.cell? ⟨wr.heap.size,0,none⟩=some (.int .i64 (m:Int)):=HW7.out.2.2.2.2.1.cell 0;have hlt7:=HW7.out.2.2.1.lt;have C8:=HW7.out.1.other (c:=w.heap.size) (o:=m) (by omega) (.bool true)
     have P8:=HW7.out.2.1.keep (w':=w7.setCell ⟨w.heap.size,m,none⟩ (.bool true)) fun b hb _=>Below.heap_setCell w7 ⟨w.heap.size,m,none⟩ (.bool true) b (show b≠w.heap.size from fun e=>HQ7.out.2.2.1 (e ▸ hb));have W8:=HW7.out.2.2.1.set m (.bool true);rw[j2Y s.wt hm2]at W8;have O8:=Ln.z1i HW7.out.2.2.2.1 (w':=w7.setCell ⟨w.heap.size,m,none⟩ (.bool true)) fun r e=>Below.heap_setCell w7 ⟨w.heap.size,m,none⟩ (.bool true) r (show r≠w.heap.size by have:=(World.ownsRow.lt HW7.out.2.2.2.1 r e).1;omega)
     have K8:=HW7.out.2.2.2.2.1.other (c:=w.heap.size) (o:=m) (by omega) (.bool true)
     have A8:=HW7.out.2.2.2.2.2.past (b:=w.heap.size) (Nat.le_refl _) m (.bool true);have H8:=hide (show _/\_/\_/\_/\_/\_ from ⟨C8,P8,W8,O8,K8,A8⟩);clear C8 P8 W8 O8 K8 A8 k0 k1 k2 k3 k4 k5 k6 aW
     go_upto_region 7 with fail
     clear aW7 f7 j0 hlt7;generalize w7.setCell ⟨w.heap.size,m,none⟩ (.bool true)=w8 at *;have k0:w8.cell? ⟨wr.heap.size,0,none⟩=some (.int .i64 (m:Int)):=H8.out.2.2.2.2.1.cell 0;have k1:w8.cell? ⟨wr.heap.size,1,none⟩=some (.int .i64 x2.k):=H8.out.2.2.2.2.1.cell 1;have k2:w8.cell? ⟨wr.heap.size,2,none⟩=some (.int .i64 x2.i):=H8.out.2.2.2.2.1.cell 2;have k3:w8.cell? ⟨wr.heap.size,3,none⟩=some (.int .i64 x2.v):=H8.out.2.2.2.2.1.cell 3;have k4:w8.cell? ⟨wr.heap.size,4,none⟩=some (.int .i64 x2.n):=H8.out.2.2.2.2.1.cell 4;have k5:w8.cell? ⟨wr.heap.size,5,none⟩=some (.slice B1 n1 D1):=H8.out.2.2.2.2.1.cell 5;have k6:w8.cell? ⟨wr.heap.size,6,none⟩=some (.slice B2 n2 D2):=H8.out.2.2.2.2.1.cell 6;have hw8:w.heap.size<w8.heap.size:=H8.out.2.2.1.lt;have ho8:=World.ownsRow.alloc H8.out.2.2.2.1 (.cells #[.int .i64 (m:Int),.int .i64 x2.k,.int .i64 x2.i,.int .i64 x2.v,.int .i64 x2.n,.slice B1 n1 D1,.slice B2 n2 D2] 115);have HO8:=hide ho8;clear ho8
     go_upto_region 8 with (at_builtin;refine wpList_append_own_at _ rfl _ _ 54 rfl (w.heap.size+1) 115 i0 (.agg #[.int .i64 0,.int .i64 0,.int .i64 0,.int .i64 0,.int .i64 0,.slice none 0 0,.slice none 0 0]) 7 88 underlying54 hi hz0 hz1 hz2 rfl (by decide) _ _ _ rfl HO8.out ⟨w8.heap.size,0,none⟩ 1 1 (akL ((m:Int),x2) (.slice B1 n1 D1,.slice B2 n2 D2)) rfl rfl (q3y w8 ((m:Int),x2) (.slice B1 n1 D1,.slice B2 n2 D2) 115) (by intro u hu;simp[akL]at hu;rcases hu with rfl | rfl | rfl | rfl | rfl | rfl | rfl <;> rfl) (by unfold maxLen;omega) (by omega) (by simp;omega) ?_;intro v9 w9 hown' hgrow _ hat;have HW9:=hide (show _/\_/\_ from ⟨hown',hgrow,hat⟩);clear hown' hgrow hat)
     have HN:Hid (QuR Inv P w g { s with wt:=fun i=>if i=m then true else s.wt i,left:=s.left ++ [((m:Int),x2)] } v9 w9):=QuR.wait hgw H8.out.1 H8.out.2.1 HQ7.out.1 HQ7.out.2.1 HQ7.out.2.2.1 HQ7.out.2.2.2 H8.out.2.2.1 H8.out.2.2.2.1 HL5.out.1 HL5.out.2 H8.out.2.2.2.2.2 H6.out.2.2.2.2.2.2 HIN.out HW9.out.1 HW9.out.2.1 HW9.out.2.2
     clear k0 k1 k2 k3 k4 k5 k6;go_wp2
     first | exact ⟨⟨k+1,by omega,by go_num,by rw[HST.out,HSP.out];exact HN.out⟩,by simp[intOf];omega⟩ | ((repeat apply Exists.intro);exact ⟨⟨k+1,by omega,by go_num,by rw[HST.out,HSP.out];exact HN.out⟩,rfl⟩)
    ·replace HSP:=hide (HSP.out.trans (if_pos rfl))
     go_upto_region 8 with (go_at_call 135;refine HDC.out.mono ?_;rintro e w7 ⟨v7,rfl,C7,P7,A7⟩;dsimp only at C7 P7;have HW7:=hide (show _/\_/\_ from ⟨C7,P7,A7⟩);clear C7 P7 A7;dsimp only)
     clear k0 k1 k2 k3 k4 k5 k6 aW
     have HN:Hid (QuR Inv P w g { s with p:=p' } u3 w7):=by
      obtain ⟨C7,P7,A7⟩:=HW7.out;obtain ⟨hq1,hq2,hq3,hq4⟩:=HQS.out;refine ⟨⟨v7,New Q w5 0,C7,P7,fun b h=>?_,z0K hq2 (by omega),z0K hq3 (by omega),fun r e=>z0K (hq4 r e) (by have:=(World.ownsRow.lt H6.out.2.2.2.2.1 r e).2;omega)⟩,A7.cat (by omega) H6.out.2.2.1,⟨z5,HL5.out.1,Ln.z1i H6.out.2.2.2.2.1 fun r e=>A7.block r (World.ownsRow.lt H6.out.2.2.2.2.1 r e).2 (by have:=(World.ownsRow.lt H6.out.2.2.2.2.1 r e).1;omega),HL5.out.2⟩,H6.out.2.2.2.1.trans A7,HID.out⟩
      rcases h with ⟨h,_⟩ | h
      ·exact hq1 b h
      ·exact .inr (by omega)
     go_wp2
     first | exact ⟨⟨k+1,by omega,by go_num,by rw[HST.out,HSP.out];exact HN.out⟩,by simp[intOf];omega⟩ | ((repeat apply Exists.intro);exact ⟨⟨k+1,by omega,by go_num,by rw[HST.out,HSP.out];exact HN.out⟩,rfl⟩)
   ·have hwt':(fun i=>if i=m then true else s.wt i)=s.wt:=funext fun i=>by
     by_cases e:i=m
     ·rw[if_pos e,e,hwt]
     ·rw[if_neg e]
    rw[hwt]at aW;replace HSP:=hide ((HSP.out.trans (if_pos hwt)).trans (by rw[hwt']:_=({ s with wt:=fun i=>if i=m then true else s.wt i,left:=s.left ++ [((m:Int),x2)] }:QS)))
    clear hwt'
    go_upto_region 6 with fail
    obtain ⟨w7,ew7⟩:∃ w7,w7=w5:=⟨_,rfl⟩;have HQ7:=HQS;have HW7:Hid (CAt 56 w7 g (prC s.p v5)/\PIn Q w7 s.p v5/\CAt 206 w7 w.heap.size #[.bool (s.wt 0),.bool (s.wt 1)]/\w7.ownsRow (w.heap.size+1) 115 7 u3 s.left.length (quL s.left z5)/\CAt 115 w7 wr.heap.size #[.int .i64 (m:Int),.int .i64 x2.k,.int .i64 x2.i,.int .i64 x2.v,.int .i64 x2.n,.slice B1 n1 D1,.slice B2 n2 D2]/\Alt g w w7):=by rw[ew7];exact ⟨H6.out.1,H6.out.2.1,H6.out.2.2.1,H6.out.2.2.2.2.1,H6.out.2.2.2.2.2.1,H6.out.2.2.2.1⟩
    rw[← ew7];clear ew7 HDC
    have aW7:w7.cell? ⟨w.heap.size,m,none⟩=some (.bool (s.wt m)):=by
     rw[HW7.out.2.2.1.cell m]
     rcases (show m=0∨m=1 by omega) with rfl | rfl <;> rfl
    have f7:=HW7.out.2.2.1.free m;have j0:w7.cell? ⟨wr.heap.size,0,none⟩=some (.int .i64 (m:Int)):=HW7.out.2.2.2.2.1.cell 0;have hlt7:=HW7.out.2.2.1.lt;have C8:=HW7.out.1.other (c:=w.heap.size) (o:=m) (by omega) (.bool true)
    have P8:=HW7.out.2.1.keep (w':=w7.setCell ⟨w.heap.size,m,none⟩ (.bool true)) fun b hb _=>Below.heap_setCell w7 ⟨w.heap.size,m,none⟩ (.bool true) b (show b≠w.heap.size from fun e=>HQ7.out.2.2.1 (e ▸ hb));have W8:=HW7.out.2.2.1.set m (.bool true);rw[j2Y s.wt hm2]at W8;have O8:=Ln.z1i HW7.out.2.2.2.1 (w':=w7.setCell ⟨w.heap.size,m,none⟩ (.bool true)) fun r e=>Below.heap_setCell w7 ⟨w.heap.size,m,none⟩ (.bool true) r (show r≠w.heap.size by have:=(World.ownsRow.lt HW7.out.2.2.2.1 r e).1;omega)
    have K8:=HW7.out.2.2.2.2.1.other (c:=w.heap.size) (o:=m) (by omega) (.bool true)
    have A8:=HW7.out.2.2.2.2.2.past (b:=w.heap.size) (Nat.le_refl _) m (.bool true);have H8:=hide (show _/\_/\_/\_/\_/\_ from ⟨C8,P8,W8,O8,K8,A8⟩);clear C8 P8 W8 O8 K8 A8 k0 k1 k2 k3 k4 k5 k6 aW
    go_upto_region 7 with fail
    clear aW7 f7 j0 hlt7;generalize w7.setCell ⟨w.heap.size,m,none⟩ (.bool true)=w8 at *;have k0:w8.cell? ⟨wr.heap.size,0,none⟩=some (.int .i64 (m:Int)):=H8.out.2.2.2.2.1.cell 0;have k1:w8.cell? ⟨wr.heap.size,1,none⟩=some (.int .i64 x2.k):=H8.out.2.2.2.2.1.cell 1;have k2:w8.cell? ⟨wr.heap.size,2,none⟩=some (.int .i64 x2.i):=H8.out.2.2.2.2.1.cell 2;have k3:w8.cell? ⟨wr.heap.size,3,none⟩=some (.int .i64 x2.v):=H8.out.2.2.2.2.1.cell 3;have k4:w8.cell? ⟨wr.heap.size,4,none⟩=some (.int .i64 x2.n):=H8.out.2.2.2.2.1.cell 4;have k5:w8.cell? ⟨wr.heap.size,5,none⟩=some (.slice B1 n1 D1):=H8.out.2.2.2.2.1.cell 5;have k6:w8.cell? ⟨wr.heap.size,6,none⟩=some (.slice B2 n2 D2):=H8.out.2.2.2.2.1.cell 6;have hw8:w.heap.size<w8.heap.size:=H8.out.2.2.1.lt;have ho8:=World.ownsRow.alloc H8.out.2.2.2.1 (.cells #[.int .i64 (m:Int),.int .i64 x2.k,.int .i64 x2.i,.int .i64 x2.v,.int .i64 x2.n,.slice B1 n1 D1,.slice B2 n2 D2] 115);have HO8:=hide ho8;clear ho8
    go_upto_region 8 with (at_builtin;refine wpList_append_own_at _ rfl _ _ 54 rfl (w.heap.size+1) 115 i0 (.agg #[.int .i64 0,.int .i64 0,.int .i64 0,.int .i64 0,.int .i64 0,.slice none 0 0,.slice none 0 0]) 7 88 underlying54 hi hz0 hz1 hz2 rfl (by decide) _ _ _ rfl HO8.out ⟨w8.heap.size,0,none⟩ 1 1 (akL ((m:Int),x2) (.slice B1 n1 D1,.slice B2 n2 D2)) rfl rfl (q3y w8 ((m:Int),x2) (.slice B1 n1 D1,.slice B2 n2 D2) 115) (by intro u hu;simp[akL]at hu;rcases hu with rfl | rfl | rfl | rfl | rfl | rfl | rfl <;> rfl) (by unfold maxLen;omega) (by omega) (by simp;omega) ?_;intro v9 w9 hown' hgrow _ hat;have HW9:=hide (show _/\_/\_ from ⟨hown',hgrow,hat⟩);clear hown' hgrow hat)
    have HN:Hid (QuR Inv P w g { s with wt:=fun i=>if i=m then true else s.wt i,left:=s.left ++ [((m:Int),x2)] } v9 w9):=QuR.wait hgw H8.out.1 H8.out.2.1 HQ7.out.1 HQ7.out.2.1 HQ7.out.2.2.1 HQ7.out.2.2.2 H8.out.2.2.1 H8.out.2.2.2.1 HL5.out.1 HL5.out.2 H8.out.2.2.2.2.2 H6.out.2.2.2.2.2.2 HIN.out HW9.out.1 HW9.out.2.1 HW9.out.2.2
    clear k0 k1 k2 k3 k4 k5 k6;go_wp2
    first | exact ⟨⟨k+1,by omega,by go_num,by rw[HST.out,HSP.out];exact HN.out⟩,by simp[intOf];omega⟩ | ((repeat apply Exists.intro);exact ⟨⟨k+1,by omega,by go_num,by rw[HST.out,HSP.out];exact HN.out⟩,rfl⟩)
  ·obtain rfl:k=p.q.length:=by omega
   rw[List.take_length,← HGO.out]at HR;have hql:=(z9x p.q ⟨p,fun _=>false,[]⟩).2;rw[← HGO.out]at hql;have hql':G.left.length<=p.q.length:=by simpa using hql
   have HQL:=hide hql';clear hql hql';obtain ⟨⟨v5,Q,C5,P5,hq1,hq2,hq3,hq4⟩,W5,⟨z5,L5⟩,A5,I5⟩:=HR.out;obtain ⟨Al,Cl,el⟩:=Ln.z3h L5.own;subst el;have c96:wr.cell? ⟨g,96,none⟩=some v5.q:=C5.cell 96;have f96:=C5.free 96;have hlt5:=C5.lt;have C6:=C5.set 96 (.slice Al G.left.length Cl);rw[j8i G.p v5 G.left]at C6;have A6:=A5.set 96 (.slice Al G.left.length Cl);have k6:∀ b,b≠g->(wr.setCell ⟨g,96,none⟩ (.slice Al G.left.length Cl)).heap[b]?=wr.heap[b]?:=fun b hb=>Below.heap_setCell wr ⟨g,96,none⟩ _ b hb
   have N6:PIn (New P w 0) (wr.setCell ⟨g,96,none⟩ (.slice Al G.left.length Cl)) { G.p with q:=G.left } { v5 with q:=.slice Al G.left.length Cl }:=by
    have n5:=(P5.keep (w':=wr.setCell ⟨g,96,none⟩ (.slice Al G.left.length Cl)) fun b hb _=>k6 b fun e=>hq2 (e ▸ hb)).mono (P':=New P w 0) fun b _ hb=>hq1 b hb;refine ⟨n5.ws,n5.set,n5.lk,⟨z5,L5.len,?_,fun i x y hx hy=>?_⟩⟩
    ·have o6:=Ln.z1i L5.own (w':=wr.setCell ⟨g,96,none⟩ (.slice Al G.left.length Cl)) fun r e=>k6 r (by have:=(World.ownsRow.lt L5.own r e).1;omega)
     exact (Rep.own (bts:=80) o6 (by have:=HQL.out;omega)).mono fun b _ hb=>.inr (by omega)
    ·have h2:=L5.ins i x y hx hy;have key:∀ {u:Value} {sz bts:Nat} {cs:List Value},Rep P w u sz bts cs->Rep (New P w 0) (wr.setCell ⟨g,96,none⟩ (.slice Al G.left.length Cl)) u sz bts cs:=fun h=>(A6.rep (P:=fun b=>P b/\b<w.heap.size) (fun h=>hg h.1) (h.mono fun b hl hb=>⟨hb,hl⟩)).mono fun b _ hb=>.inl hb;exact ⟨key h2.1,key h2.2⟩
   have HZ:=hide (show _/\_/\_ from ⟨C6,N6,A6⟩);have HQP':=HQP;clear C5 P5 hq1 hq2 hq3 hq4 W5 L5 A5 I5 C6 A6 k6 N6 HR;go_wp2;go_end0;rw[HQP'.out];exact ⟨_,rfl,HZ.out.1,HZ.out.2.1,HZ.out.2.2⟩
def j8w(F:Option Addr->Nat->Nat->Nat->Act)(R:Option Addr->Nat->Nat->Nat->World->Prop)(ex:Exit)(a:Act)(w:World):Prop:=∃ A n C g,ex=Exit.normal/\a=F A n C g/\R A n C g w
theorem j0U{P:Program}{c:Code}{Q:Exit->Act->World->Prop}{a:Act}{w:World}(R:Option Addr->Nat->Nat->Nat->World->Prop)(F:Option Addr->Nat->Nat->Nat->Act)(h1:Code.wp P c (j8w F R) a w)(h2:∀ A n C g w',R A n C g w'->Q Exit.normal (F A n C g) w'):Code.wp P c Q a w:=
 Code.wp_mono (fun e a' w' h=>by obtain ⟨A,n,C,g,rfl,rfl,h⟩:=h;exact h2 A n C g w' h) h1
def q3a(a v:Value):Sem Unit:=Instr.storeAt 83 a v
theorem z7i(a v:Value):Instr.storeAt 83 a v=q3a a v:=rfl
def q0B(a v:Value):Sem Unit:=Instr.storeAt 46 a v
theorem z7y(a v:Value):Instr.storeAt 46 a v=q0B a v:=rfl
theorem j5G:(prog.info? 83).map (·.size)=some 6:=by kernel_rfl
theorem q8r:(prog.info? 46).map (·.size)=some 4:=by kernel_rfl
def Z6:Array Value:=#[.int .i64 0,.int .i64 0,.int .i64 0,.int .i64 0,.slice none 0 0,.slice none 0 0]
def Z4:Array Value:=#[.slice none 0 0,.slice none 0 0,.int .i64 0,.bool false]
theorem q3u{w:World}{g:Nat}{zs cs:Array Value}(h:CAt 83 w g zs)(hz:zs.size=6)(hs:cs.size=6)(h1:cs.all (·.oneCell')=true):(q3a (.pointer (some ⟨g,0,none⟩)) (.agg cs)).run prog w=.ok () (w.setCells g 0 cs.toList):=
 run_storeAt_mid (P:=prog) w g 0 83 cs (h.there 0 _ (by rw[hz,hs];omega)) (by rw[j5G,hs]) h1
theorem q2T{w:World}{g:Nat}{zs cs:Array Value}(h:CAt 46 w g zs)(hz:zs.size=4)(hs:cs.size=4)(h1:cs.all (·.oneCell')=true):(q0B (.pointer (some ⟨g,0,none⟩)) (.agg cs)).run prog w=.ok () (w.setCells g 0 cs.toList):=
 run_storeAt_mid (P:=prog) w g 0 46 cs (h.there 0 _ (by rw[hz,hs];omega)) (by rw[q8r,hs]) h1
structure Tds(w1:World)(cs:Array Value)(dl:List (Int×Int))(u:Value)(g4:Nat)(w5:World):Prop where
 cat:CAt 83 w5 g4 cs
 rep:Rep (fun b=>w1.heap.size<=b/\b≠g4) w5 u 2 16 (pwC dl)
 bel:Below w1.heap.size w1 w5
 le:w1.heap.size<=g4
theorem j5C{w1 w0 wb:World}{cs:Array Value}{dl:List (Int×Int)}{u:Value}(hs:cs.size=6)(U:Rep (fun b=>w0.heap.size<=b) wb u 2 16 (pwC dl))(h0:w1.heap.size<=w0.heap.size)(hb:Below w1.heap.size w1 wb):Tds w1 cs dl u wb.heap.size ((wb.alloc (.cells Z6 83)).setCells wb.heap.size 0 cs.toList):=by
 have bA:Below wb.heap.size wb (wb.alloc (.cells Z6 83)):=znw wb _;have U1:Rep (fun b=>w1.heap.size<=b/\b≠wb.heap.size) wb u 2 16 (pwC dl):=U.mono fun b hl h=>⟨Nat.le_trans h0 h,by omega⟩
 exact ⟨(CAt.new 83 wb Z6).z0s (by rw[hs];rfl),(U1.over bA).sets (fun h=>h.2 rfl) 0 _,z0a hb.size _ _ _ (hb.alloc hb.size _),hb.size⟩
theorem j5g{w1 ws wb:World}{cs:Array Value}{dl:List (Int×Int)}{u:Value}(hs:cs.size=6)(U:Rep (fun b=>ws.heap.size<=b) wb u 2 16 (pwC dl))(h0:w1.heap.size+1<=ws.heap.size)(hb:Below w1.heap.size w1 wb)(hc:CAt 83 wb w1.heap.size Z6):Tds w1 cs dl u w1.heap.size (wb.setCells w1.heap.size 0 cs.toList):=by
 have U1:Rep (fun b=>w1.heap.size<=b/\b≠w1.heap.size) wb u 2 16 (pwC dl):=U.mono fun b hl h=>by have h':ws.heap.size<=b:=h;exact ⟨by omega,by omega⟩
 exact ⟨hc.z0s (by rw[hs];rfl),U1.sets (fun h=>h.2 rfl) 0 _,z0a (Nat.le_refl _) _ _ _ hb,Nat.le_refl _⟩
theorem j3e(a b:Int){u:Value}(h:∃ A n C,u=.slice A n C)(A:Option Addr)(n C:Nat):(#[.int .i64 a,.int .i64 b,.int .i64 0,.int .i64 0,u,.slice A n C]:Array Value).all (·.oneCell')=true:=by
 obtain ⟨A',n',C',rfl⟩:=h
 first | (simp[Value.oneCell'];done) | (rw[Array.all_eq_true_iff_forall_mem];intro x hx;simp at hx;rcases hx with rfl | rfl | rfl | rfl | rfl | rfl <;> rfl)
theorem j0m{w1 w0 wb:World}{cs:Array Value}{dl:List (Int×Int)}{u:Value}(hs:cs.size=6)(h1:cs.all (·.oneCell')=true)(U:Rep (fun b=>w0.heap.size<=b) wb u 2 16 (pwC dl))(h0:w1.heap.size<=w0.heap.size)(hb:Below w1.heap.size w1 wb):∃ wS,(q3a (.pointer (some ⟨wb.heap.size,0,none⟩)) (.agg cs)).run prog (wb.alloc (.cells Z6 83))=.ok () wS/\Tds w1 cs dl u wb.heap.size wS:=
 ⟨_,q3u (CAt.new 83 wb Z6) rfl hs h1,j5C hs U h0 hb⟩
theorem j0z{w1 ws wb:World}{cs:Array Value}{dl:List (Int×Int)}{u:Value}(hs:cs.size=6)(h1:cs.all (·.oneCell')=true)(U:Rep (fun b=>ws.heap.size<=b) wb u 2 16 (pwC dl))(h0:w1.heap.size+1<=ws.heap.size)(hb:Below w1.heap.size w1 wb)(hc:CAt 83 wb w1.heap.size Z6):∃ wS,(q3a (.pointer (some ⟨w1.heap.size,0,none⟩)) (.agg cs)).run prog wb=.ok () wS/\Tds w1 cs dl u w1.heap.size wS:=
 ⟨_,q3u hc rfl hs h1,j5g hs U h0 hb hc⟩
theorem q8e(p:Pr)(v:PrV)(k:Nat)(hk:k<2):∃ a c:List Value,a.length=66+k * 14/\prC p v=(a ++ (lkL (p.L k) (v.l k) ++ c)).toArray/\∀ y x,prC { p with L:=z0X p.L k y } (v.upd k x)=(a ++ (lkL y x ++ c)).toArray:=by
 have h0:([.int .i64 p.h,.int .i64 p.t] ++ ((stC p.s v.ws).toList ++ [v.set]):List Value).length=66:=by simp[z0e]
 match k,hk with
 | 0,_ =>
  refine ⟨[.int .i64 p.h,.int .i64 p.t] ++ ((stC p.s v.ws).toList ++ [v.set]),lkL (p.L 1) (v.l 1) ++ [.int .i64 p.ml,.int .i64 p.mn,v.q],h0,?_,fun y x=>?_⟩
  ·simp[prC]
  ·simp[prC,PrV.upd,z0X]
 | 1,_ =>
  refine ⟨[.int .i64 p.h,.int .i64 p.t] ++ ((stC p.s v.ws).toList ++ [v.set]) ++ lkL (p.L 0) (v.l 0),[.int .i64 p.ml,.int .i64 p.mn,v.q],?_,?_,fun y x=>?_⟩
  ·rw[List.length_append,h0];rfl
  ·simp[prC]
  ·simp[prC,PrV.upd,z0X]
theorem j4u{p:Pr}{v:PrV}(k:Nat)(hk:k<2)(x:Ln.Line)(l:List (Int×Int))(T S U:Value) :
  (((((((prC p v).setIfInBounds (66+k * 14+6) S).setIfInBounds (66+k * 14+7) U).setIfInBounds (66+k * 14+8) (.int .i64 x.g)).setIfInBounds (66+k * 14+9) (.bool x.cl)).setIfInBounds (66+k * 14+3) T).setIfInBounds (66+k * 14+4) (.bool false)).setIfInBounds (66+k * 14+5) (.slice none 0 0)
   = prC { p with L:=z0X p.L k { p.L k with out:=x,told:=l,fresh:=false,done:=[] } } (v.upd k ⟨T,.slice none 0 0,S,U⟩):=by
 obtain ⟨a,c,ha,h1,h2⟩:=q8e p v k hk;rw[h1,h2,set_mid _ _ _ _ _ _ ha (by show 6<14;omega),set_mid _ _ _ _ _ _ ha (by simp[lkL]),set_mid _ _ _ _ _ _ ha (by simp[lkL]),set_mid _ _ _ _ _ _ ha (by simp[lkL]),set_mid _ _ _ _ _ _ ha (by simp[lkL]),set_mid _ _ _ _ _ _ ha (by simp[lkL]),set_mid _ _ _ _ _ _ ha (by simp[lkL])]
 rfl
theorem j4y{P:Nat->Prop}{w:World}{p:Pr}{v:PrV}(h:PIn P w p v)(k:Nat)(x:Ln.Line)(T S U:Value)(h1:Rep P w T 2 16 (pwC p.set))(h2:z0I P w S 1 16 (txC x.S))(h3:z0I P w U 1 8 (inC x.D)) :
  PIn P w { p with L:=z0X p.L k { p.L k with out:=x,told:=p.set,fresh:=false,done:=[] } } (v.upd k ⟨T,.slice none 0 0,S,U⟩):=by
 refine ⟨h.ws,h.set,fun c hc=>?_,h.q⟩
 show z5r P w (if c=k then _ else p.L c) (if c=k then _ else v.l c)
 by_cases e:c=k
 ·rw[if_pos e,if_pos e];exact ⟨h1,Rep.nil _ _ _ _,h2,h3⟩
 ·rw[if_neg e,if_neg e];exact h.lk c hc
noncomputable def j7C:Code:=j0p [1,1] (f112.body.getD .skip)
noncomputable def j7y:Code:=j0p [1,1,1,1,1] (f112.body.getD .skip)
end Pv
end Go.Proofs.YtknaapahicaobaaGreat
