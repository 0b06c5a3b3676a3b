/- Parts of the proof. -/
import Derived.Test.YtmopekkhmhhcaaaGreatFL
import Derived.Test.YtmopekkhmhhcaaaGreatFK31
import Derived.Deep.AppendLies
import Derived.ChangeKeysEq
import Derived.Laws.Cover3
set_option maxRecDepth 100000
set_option maxHeartbeats 16000000
namespace Go.Proofs.YtmopekkhmhhcaaaGreat
open Go.Proofs.Tryz
namespace Ln
open Go.RowKit
theorem j6K:(prog.info? 9).map (fun i=>(i.zero,i.size,i.bytes))=some (some (.string ⟨#[]⟩),1,16):=by kernel_rfl
theorem j7O:(prog.info? 3).map (fun i=>(i.zero,i.size,i.bytes))=some (some (.int .i64 0),1,8):=by kernel_rfl
theorem j3t{B:Nat}{w:World}{g n c e:Nat}{l:List ByteArray}(h:w.ownsRow B e 1 (.slice (some ⟨g,0,none⟩) n c) n (l.map .string)):B<=g/\g<w.heap.size/\z3B w g 0 l:=by
  rcases h.2 with⟨h1,_⟩ | ⟨g',cap,cur,hv,hb,hg,hn,hm,hs,ht⟩
  · cases h1
  · cases hv
    refine⟨hb,(Array.getElem?_eq_some_iff.1 hg).1,fun i hi=>?_⟩;have hl:l.length=n:=by have:=h.1;simpa using this
    have:(cur.toList.take (n * 1))[i]?=some (.string (l.getD i ByteArray.empty)):=by rw[ht];simp[List.getD,hi]
    rw[List.getElem?_take_of_lt (by omega)]at this
    simp only[World.cell?,hg,Nat.zero_add]
    simpa using this
theorem j3m{B:Nat}{w:World}{g n c e:Nat}{l:List Int}(h:w.ownsRow B e 1 (.slice (some ⟨g,0,none⟩) n c) n (l.map (.int .i64))):B<=g/\g<w.heap.size/\z1b w g 0 l:=by
  rcases h.2 with⟨h1,_⟩ | ⟨g',cap,cur,hv,hb,hg,hn,hm,hs,ht⟩
  · cases h1
  · cases hv
    refine⟨hb,(Array.getElem?_eq_some_iff.1 hg).1,fun i hi=>?_⟩;have hl:l.length=n:=by have:=h.1;simpa using this
    have:(cur.toList.take (n * 1))[i]?=some (.int .i64 (l.getD i 0)):=by rw[ht];simp[List.getD,hi]
    rw[List.getElem?_take_of_lt (by omega)]at this
    simp only[World.cell?,hg,Nat.zero_add]
    simpa using this
theorem j0z{w:World}{b off:Nat}{l:List ByteArray}{a:Option Addr}(ha:0<l.length->a=some ⟨b,off,none⟩)(hc:z3B w b off l):∀ ad,a=some ad->∀ j u,(l.map Value.string)[j]?=some u->w.cell? (ad.add j)=some u:=by
  intro ad e j u hu;have hj:j<l.length:=by have:=(List.getElem?_eq_some_iff.1 hu).1;simpa using this
  rw[ha (by omega)]at e
  cases e;rw[Addr.add_lit,hc j hj]
  simp[hj]at hu
  simp[List.getD,hj,hu]
theorem q8z(l:List ByteArray)(a:Option Addr)(c b off:Nat)(s:ByteArray)(w:World)(hl:l.length<=400)(ha:0<l.length->a=some ⟨b,off,none⟩)(hn:a=none->c=0)(hc:z3B w b off l) :
    Calls prog 163 #[.slice a l.length c,Value.string s] w fun e w'=>∃ g C,e=.returned (.slice (some ⟨g,0,none⟩) (l ++ [s]).length C)/\w.heap.size<=g/\g<w'.heap.size/\z3B w' g 0 (l ++ [s])/\Below w.heap.size w w':=by
  obtain⟨i0,hi,hz0,hz1,hz2⟩:=info_parts j6K;have hb1:i0.bytes * (l.length+1)<=281474976710656:=by rw[hz2];omega
  have hb2:l.length+1<=maxLen:=by unfold maxLen;omega
  have hnn:a=none->l.length=0/\c=0:=fun e=>by
    refine⟨?_,hn e⟩
    rcases Nat.eq_zero_or_pos l.length with h | h
    · exact h
    · rw[ha h]at e;cases e
  have HC:Hid (0<l.length->a=some ⟨b,off,none⟩):=ha;have HD:Hid (z3B w b off l):=hc
  have h1c:∀ u∈l.map Value.string,u.oneCell'=true:=fun u hu=>by
    simp at hu
    obtain⟨t,_,rfl⟩:=hu;rfl
  clear ha hc hn
  go_enter func163,ntmps163
  go_wp2_with (first
    | (refine wpList_make_own _ rfl _ _ 23 rfl w.heap.size 9 i0 _ 1 underlying23 hi hz0 hz1 .i64 .i64 _ (l.length+1) rfl rfl ?_ hb1 hb2 (Nat.le_refl _) ?_
       · first | omega | simp
       intro w1 ho1 hg1;have B1:=(Below.refl w.heap.size w).grown hg1 (Nat.le_refl _) (fun k hk=>by cases hk)
       have HB1:=hide B1;have sc:=j0z HC.out (HD.out.later B1)
       clear B1 hg1)
    | (have _m:=sc
       at_builtin
       refine wpList_append_fits_any _ rfl _ _ 23 rfl w.heap.size 9 i0 1 underlying23 hi hz1 w.heap.size 0 (l.length+1) [] rfl ho1 a l.length c (l.map Value.string) rfl (by simp) hnn sc h1c (by omega) ?_
       intro w2 ho2 hg2;have HB2:=hide (HB1.out.grown hg2 HB1.out.size (fun k hk=>by cases hk;exact Nat.le_refl _))
       rw[List.nil_append,Nat.zero_add]at ho2
       clear hg2 sc ho1)
    | (at_builtin
       refine wpList_append_fits _ rfl _ _ 23 rfl w.heap.size 9 i0 1 underlying23 hi hz1 w.heap.size l.length (l.length+1) (l.map Value.string) ?_ (World.ownsRow.alloc ho2 _) ⟨w2.heap.size,0,none⟩ 1 1 [Value.string s] rfl rfl (cell_one_new _ _ _) (by simp[Value.oneCell']) (by omega) ?_
       · first | rfl | simp
       intro w3 ho3 hg3
       have HB3:=hide ((HB2.out.alloc HB2.out.size _).grown hg3 (Nat.le_trans HB2.out.size (by simp)) (fun k hk=>by cases hk;exact Nat.le_refl _))))
  go_ret;rw[show l.map Value.string ++ [Value.string s]=(l ++ [s]).map Value.string by simp]at ho3
  obtain⟨o1,o2,o3⟩:=j3t ho3;exact⟨w.heap.size,l.length+1,by simp,Nat.le_refl _,o2,o3,HB3.out⟩
theorem q7u{w:World}{b off:Nat}{l:List Int}{a:Option Addr}(ha:0<l.length->a=some ⟨b,off,none⟩)(hc:z1b w b off l):∀ ad,a=some ad->∀ j u,(l.map (Value.int .i64))[j]?=some u->w.cell? (ad.add j)=some u:=by
  intro ad e j u hu;have hj:j<l.length:=by have:=(List.getElem?_eq_some_iff.1 hu).1;simpa using this
  rw[ha (by omega)]at e
  cases e;rw[Addr.add_lit,hc j hj]
  simp[hj]at hu
  simp[List.getD,hj,hu]
theorem q9u(l:List Int)(a:Option Addr)(c b off:Nat)(s:Int)(w:World)(hl:l.length<=400)(ha:0<l.length->a=some ⟨b,off,none⟩)(hn:a=none->c=0)(hc:z1b w b off l) :
    Calls prog 164 #[.slice a l.length c,(Value.int .i64) s] w fun e w'=>∃ g C,e=.returned (.slice (some ⟨g,0,none⟩) (l ++ [s]).length C)/\w.heap.size<=g/\g<w'.heap.size/\z1b w' g 0 (l ++ [s])/\Below w.heap.size w w':=by
  obtain⟨i0,hi,hz0,hz1,hz2⟩:=info_parts j7O;have hb1:i0.bytes * (l.length+1)<=281474976710656:=by rw[hz2];omega
  have hb2:l.length+1<=maxLen:=by unfold maxLen;omega
  have hnn:a=none->l.length=0/\c=0:=fun e=>by
    refine⟨?_,hn e⟩
    rcases Nat.eq_zero_or_pos l.length with h | h
    · exact h
    · rw[ha h]at e;cases e
  have HC:Hid (0<l.length->a=some ⟨b,off,none⟩):=ha;have HD:Hid (z1b w b off l):=hc
  have h1c:∀ u∈l.map (Value.int .i64),u.oneCell'=true:=fun u hu=>by
    simp at hu
    obtain⟨t,_,rfl⟩:=hu;rfl
  clear ha hc hn
  go_enter func164,ntmps164
  go_wp2_with (first
    | (refine wpList_make_own _ rfl _ _ 45 rfl w.heap.size 3 i0 _ 1 underlying45 hi hz0 hz1 .i64 .i64 _ (l.length+1) rfl rfl ?_ hb1 hb2 (Nat.le_refl _) ?_
       · first | omega | simp
       intro w1 ho1 hg1;have B1:=(Below.refl w.heap.size w).grown hg1 (Nat.le_refl _) (fun k hk=>by cases hk)
       have HB1:=hide B1;have sc:=q7u HC.out (HD.out.later B1)
       clear B1 hg1)
    | (have _m:=sc
       at_builtin
       refine wpList_append_fits_any _ rfl _ _ 45 rfl w.heap.size 3 i0 1 underlying45 hi hz1 w.heap.size 0 (l.length+1) [] rfl ho1 a l.length c (l.map (Value.int .i64)) rfl (by simp) hnn sc h1c (by omega) ?_
       intro w2 ho2 hg2;have HB2:=hide (HB1.out.grown hg2 HB1.out.size (fun k hk=>by cases hk;exact Nat.le_refl _))
       rw[List.nil_append,Nat.zero_add]at ho2
       clear hg2 sc ho1)
    | (at_builtin
       refine wpList_append_fits _ rfl _ _ 45 rfl w.heap.size 3 i0 1 underlying45 hi hz1 w.heap.size l.length (l.length+1) (l.map (Value.int .i64)) ?_ (World.ownsRow.alloc ho2 _) ⟨w2.heap.size,0,none⟩ 1 1 [(Value.int .i64) s] rfl rfl (cell_one_new _ _ _) (by simp[Value.oneCell']) (by omega) ?_
       · first | rfl | simp
       intro w3 ho3 hg3
       have HB3:=hide ((HB2.out.alloc HB2.out.size _).grown hg3 (Nat.le_trans HB2.out.size (by simp)) (fun k hk=>by cases hk;exact Nat.le_refl _))))
  go_ret;rw[show l.map (Value.int .i64) ++ [(Value.int .i64) s]=(l ++ [s]).map (Value.int .i64) by simp]at ho3
  obtain⟨o1,o2,o3⟩:=j3m ho3;exact⟨w.heap.size,l.length+1,by simp,Nat.le_refl _,o2,o3,HB3.out⟩
end Ln
namespace Ln
open Go.RowKit
def LVX(lo sb0 db0:Nat)(x0:Line)(B:Nat)(w:World)(x:Line)(v:Value):Prop:=
 ∃ sa da cs cd sb so db dO,v=.agg #[.slice sa x.S.length cs,.slice da x.D.length cd,.int .i64 x.g,.bool x.cl]/\LAt w x sa da cs cd sb so db dO/\(0<x.S.length->sb<B/\((sb=sb0/\x.S=x0.S)∨lo<=sb))/\(0<x.D.length->db<B/\((db=db0/\x.D=x0.D)∨lo<=db))
def Ans(sb0 db0:Nat)(x0:Line)(w:World)(r:Line×Int)(e:Ending)(w':World):Prop:=∃ v,e=.returned (.tuple #[v,.int .i64 r.2])/\LVX w.heap.size sb0 db0 x0 w'.heap.size w' r.1 v/\Below w.heap.size w w'
def FAt(w:World)(b:Nat)(v0 v1 v2 v3:Value):Prop:=w.heap[b]?=some (.cells #[v0,v1,v2,v3] 47)
section
variable {w w':World} {b B:Nat} {v0 v1 v2 v3:Value}
theorem FAt.later(h:FAt w b v0 v1 v2 v3)(hb:Below B w w')(hB:b<B):FAt w' b v0 v1 v2 v3:=(hb.block b hB).trans h
theorem FAt.new(w:World)(v0 v1 v2 v3:Value):FAt (w.alloc (.cells #[v0,v1,v2,v3] 47)) w.heap.size v0 v1 v2 v3:=heap_alloc_new _ _
theorem FAt.lt(h:FAt w b v0 v1 v2 v3):b<w.heap.size:=(Array.getElem?_eq_some_iff.1 h).1
theorem FAt.alloc(h:FAt w b v0 v1 v2 v3)(o:Obj):FAt (w.alloc o) b v0 v1 v2 v3:=(Below.heap_alloc _ _ _ h.lt).trans h
theorem FAt.other{c o:Nat}(h:FAt w b v0 v1 v2 v3)(hb:b≠c)(v:Value):FAt (w.setCell ⟨c,o,none⟩ v) b v0 v1 v2 v3:=(Below.heap_setCell _ _ _ _ hb).trans h
theorem FAt.facts(h:FAt w b v0 v1 v2 v3):(w.cell? ⟨b,0,none⟩=some v0/\w.cell? ⟨b,1,none⟩=some v1/\w.cell? ⟨b,2,none⟩=some v2/\w.cell? ⟨b,3,none⟩=some v3)/\(w.frozen? ⟨b,0,none⟩=false/\w.frozen? ⟨b,1,none⟩=false/\w.frozen? ⟨b,2,none⟩=false/\w.frozen? ⟨b,3,none⟩=false):=by
 unfold FAt at h
 simp[World.cell?,World.frozen?,h]
theorem FAt.q9n(h:FAt w b v0 v1 v2 v3)(v:Value):FAt (w.setCell ⟨b,0,none⟩ v) b v v1 v2 v3:=by
 unfold FAt at *
 simp[World.setCell,Array.getElem?_modify,h]
theorem FAt.q7w(h:FAt w b v0 v1 v2 v3)(v:Value):FAt (w.setCell ⟨b,1,none⟩ v) b v0 v v2 v3:=by
 unfold FAt at *
 simp[World.setCell,Array.getElem?_modify,h]
theorem FAt.q9D(h:FAt w b v0 v1 v2 v3)(v:Value):FAt (w.setCell ⟨b,2,none⟩ v) b v0 v1 v v3:=by
 unfold FAt at *
 simp[World.setCell,Array.getElem?_modify,h]
theorem FAt.q9f(h:FAt w b v0 v1 v2 v3)(v:Value):FAt (w.setCell ⟨b,3,none⟩ v) b v0 v1 v2 v:=by
 unfold FAt at *
 simp[World.setCell,Array.getElem?_modify,h]
end
def j1b(w:World)(b:Nat)(v0 v1 v2 v3:Value):World:=(((w.setCell ⟨b,0,none⟩ v0).setCell ⟨b,1,none⟩ v1).setCell ⟨b,2,none⟩ v2).setCell ⟨b,3,none⟩ v3
theorem j5n{w:World}{b:Nat}{u0 u1 u2 u3:Value}(h:FAt w b u0 u1 u2 u3)(v0 v1 v2 v3:Value):FAt (j1b w b v0 v1 v2 v3) b v0 v1 v2 v3:=(((h.q9n v0).q7w v1).q9D v2).q9f v3
theorem q6j{B:Nat}{w0 w:World}{b:Nat}(v0 v1 v2 v3:Value)(h:Below B w0 w)(hB:B<=b):Below B w0 (j1b w b v0 v1 v2 v3):=(((h.setCell hB _).setCell hB _).setCell hB _).setCell hB _
theorem z9n{w:World}{b:Nat}(v0 v1 v2 v3:Value){c:Nat}(hc:c≠b):(j1b w b v0 v1 v2 v3).heap[c]?=w.heap[c]?:=by
 unfold j1b;rw[Below.heap_setCell _ _ _ _ hc,Below.heap_setCell _ _ _ _ hc,Below.heap_setCell _ _ _ _ hc,Below.heap_setCell _ _ _ _ hc]
theorem cell_of_heap{w w':World}{b:Nat}(h:w'.heap[b]?=w.heap[b]?)(o:Nat):w'.cell? ⟨b,o,none⟩=w.cell? ⟨b,o,none⟩:=World.cell?_of_block (w:=w) (a:=⟨b,o,none⟩) h
theorem q2x{w:World}{b c o:Nat}{v:Value}(h:c≠b)(k:Nat):(w.setCell ⟨b,o,none⟩ v).cell? ⟨c,k,none⟩=w.cell? ⟨c,k,none⟩:=cell_of_heap (Below.heap_setCell _ _ _ _ h) k
theorem LAt.set{w w':World}{x:Line}{sa da:Option Addr}{cs cd sb so db dO:Nat}(h:LAt w x sa da cs cd sb so db dO)(hS:0<x.S.length->w'.heap[sb]?=w.heap[sb]?)(hD:0<x.D.length->w'.heap[db]?=w.heap[db]?):LAt w' x sa da cs cd sb so db dO:=
 ⟨h.hls,h.hld,h.hsa,h.hda,h.ncs,h.ncd,fun i hi=>(cell_of_heap (hS (by omega)) _).trans (h.PS i hi),fun i hi=>(cell_of_heap (hD (by omega)) _).trans (h.PD i hi)⟩
theorem z7t{f:Func}{p q:Tmp}(hres:f.results=#[.cell p 47,.tmp q]){w wq:World}{b:Nat}{u0 u1 u2 u3:Value}(R:FAt wq b u0 u1 u2 u3)(H:Below w.heap.size w wq)(hB:w.heap.size<=b)(x:Line)(sa da:Option Addr)(cs cd sb so db dO:Nat)(L:LAt wq x sa da cs cd sb so db dO)
  (hS:0<x.S.length->sb≠b) (hD:0<x.D.length->db≠b) {sb0 db0:Nat} {x0:Line} (hS0:0<x.S.length->(sb=sb0/\x.S=x0.S)∨w.heap.size<=sb) (hD0:0<x.D.length->(db=db0/\x.D=x0.D)∨w.heap.size<=db) (nS nD:Nat) (eS:nS=x.S.length) (eD:nD=x.D.length) (er:Int) (r:Line×Int) (hr:r=(x,er)) (act:Act)
  (h8:act.tmps.getD p undef=.pointer (some ⟨b,0,none⟩)) (h9:act.tmps.getD q undef=.int .i64 er) (hd:act.defers=[]) :
  bodyPost prog f (fun e w'=>Ans sb0 db0 x0 w r e w') Exit.ret act (j1b wq b (.slice sa nS cs) (.slice da nD cd) (.int .i64 x.g) (.bool x.cl)):=by
 subst hr eS eD;have R1:=j5n R (.slice sa x.S.length cs) (.slice da x.D.length cd) (.int .i64 x.g) (.bool x.cl);have H1:=q6j (.slice sa x.S.length cs) (.slice da x.D.length cd) (.int .i64 x.g) (.bool x.cl) H hB;have L1:LAt (j1b wq b (.slice sa x.S.length cs) (.slice da x.D.length cd) (.int .i64 x.g) (.bool x.cl)) x sa da cs cd sb so db dO:=L.set (fun h=>z9n _ _ _ _ (hS h)) (fun h=>z9n _ _ _ _ (hD h));generalize j1b wq b (.slice sa x.S.length cs) (.slice da x.D.length cd) (.int .i64 x.g) (.bool x.cl)=w9 at *;obtain⟨⟨c0,c1,c2,c3⟩,-⟩:=R1.facts;have h8':act.tmps[p]?.getD undef=.pointer (some ⟨b,0,none⟩):=by simpa using h8
 have h9':act.tmps[q]?.getD undef=.int .i64 er:=by simpa using h9
 exact bodyPost_ret (v:=.tuple #[.agg #[.slice sa x.S.length cs,.slice da x.D.length cd,.int .i64 x.g,.bool x.cl],.int .i64 er]) (by simp[results,hres,go_sem,h8',h9',c0,c1,c2,c3]) hd ⟨_,rfl,⟨sa,da,cs,cd,sb,so,db,dO,rfl,L1,fun h=>⟨L1.ltS h,hS0 h⟩,fun h=>⟨L1.ltD h,hD0 h⟩⟩,H1⟩
theorem j0b(x:Line)(s:ByteArray)(due:Int) :
  (due<0/\(z5i x s due,z5C x due)=(x,2))∨(0<=due/\z4f x≠0/\(z5i x s due,z5C x due)=(x,z4f x))∨(0<=due/\z4f x=0/\400<=x.S.length/\(z5i x s due,z5C x due)=(x,6)) ∨
  (0<=due/\z4f x=0/\x.S.length<400/\(z5i x s due,z5C x due)=(⟨x.S ++ [s],x.D ++ [due],x.g,x.cl⟩,0)):=by
 unfold z5i
 by_cases h1:due<0
 ·left;simp[z5C,h1]
 right
 by_cases h2:z4f x=0
 ·right
  by_cases h3:400<=x.S.length
  ·left;refine⟨by omega,h2,h3,?_⟩;simp[z5C,h1,h2,h3]
  ·right;refine⟨by omega,h2,by omega,?_⟩;simp[z5C,h1,h2,h3]
 ·left;refine⟨by omega,h2,?_⟩;simp[z5C,h1,h2]
theorem FAt.new2(w:World)(o:Obj)(v0 v1 v2 v3:Value):FAt ((w.alloc o).alloc (.cells #[v0,v1,v2,v3] 47)) (w.heap.size+1) v0 v1 v2 v3:=by
 have:=FAt.new (w.alloc o) v0 v1 v2 v3
 rwa [show (w.alloc o).heap.size=w.heap.size+1 by simp]at this
structure q4V(w w0:World)(x:Line)(sa da:Option Addr)(cs cd sb so db dO:Nat):Prop where
 F1:FAt w0 w.heap.size (.slice sa x.S.length cs) (.slice da x.D.length cd) (.int .i64 x.g) (.bool x.cl)
 F2:FAt w0 (w.heap.size+1) (.slice none 0 0) (.slice none 0 0) (.int .i64 0) (.bool false)
 L:LAt w0 x sa da cs cd sb so db dO
 ltS:0<x.S.length->sb<w.heap.size
 ltD:0<x.D.length->db<w.heap.size
 below:Below w.heap.size w w0
 size:w.heap.size+2<=w0.heap.size
theorem begun{w:World}{x:Line}{sa da:Option Addr}{cs cd sb so db dO:Nat}(L:LAt w x sa da cs cd sb so db dO):q4V w ((w.alloc (.cells #[.slice sa x.S.length cs,.slice da x.D.length cd,.int .i64 x.g,.bool x.cl] 47)).alloc (.cells #[.slice none 0 0,.slice none 0 0,.int .i64 0,.bool false] 47)) x sa da cs cd sb so db dO:=by
 have hb:Below w.heap.size w ((w.alloc (.cells #[.slice sa x.S.length cs,.slice da x.D.length cd,.int .i64 x.g,.bool x.cl] 47)).alloc (.cells #[.slice none 0 0,.slice none 0 0,.int .i64 0,.bool false] 47)):=(z0v w _).alloc (by simp) _
 exact⟨(FAt.new w _ _ _ _).alloc _,FAt.new2 w _ _ _ _ _,L.later hb,L.ltS,L.ltD,hb,by simp⟩
theorem q4V.over{w w0 w1:World}{x:Line}{sa da:Option Addr}{cs cd sb so db dO:Nat}(h:q4V w w0 x sa da cs cd sb so db dO)(hb:Below w0.heap.size w0 w1):q4V w w1 x sa da cs cd sb so db dO:=
 ⟨h.F1.later hb h.F1.lt,h.F2.later hb h.F2.lt,h.L.later hb,h.ltS,h.ltD,z2d h.below hb,Nat.le_trans h.size hb.size⟩
theorem q4V.z0L{f:Func}{p q:Tmp}(hres:f.results=#[.cell p 47,.tmp q]){w w0:World}{x:Line}{sa da:Option Addr}{cs cd sb so db dO:Nat}(h:q4V w w0 x sa da cs cd sb so db dO)(er:Int)(r:Line×Int)(hr:r=(x,er))(act:Act)
  (h8:act.tmps.getD p undef=.pointer (some ⟨w.heap.size+1,0,none⟩)) (h9:act.tmps.getD q undef=.int .i64 er) (hd:act.defers=[]) :
  bodyPost prog f (fun e w'=>Ans sb db x w r e w') Exit.ret act (j1b w0 (w.heap.size+1) (.slice sa x.S.length cs) (.slice da x.D.length cd) (.int .i64 x.g) (.bool x.cl)):=
 z7t hres h.F2 h.below (Nat.le_succ _) x sa da cs cd sb so db dO h.L (fun h0=>by have:=h.ltS h0;omega) (fun h0=>by have:=h.ltD h0;omega) (fun _=>.inl ⟨rfl,rfl⟩) (fun _=>.inl ⟨rfl,rfl⟩) _ _ rfl rfl er r hr act h8 h9 hd
theorem j7f(x:Line)(sa da:Option Addr)(cs cd sb so db dO:Nat)(s:ByteArray)(due:Int)(w:World)(L:LAt w x sa da cs cd sb so db dO) :
  Calls prog 123 #[.agg #[.slice sa x.S.length cs,.slice da x.D.length cd,.int .i64 x.g,.bool x.cl],.string s,.int .i64 due] w fun e w'=>Ans sb db x w (z5i x s due,z5C x due) e w':=by
 have hcs:=j0b x s due;generalize (z5i x s due,z5C x due)=r at *;have HB:=hide (begun L);have HREF:=hide (fun w (L:LAt w x sa da cs cd sb so db dO)=>q2a x sa da cs cd sb so db dO w L);clear L
 go_enter func123,ntmps123
 go_upto_region 1 with fail
 generalize ((w.alloc (.cells #[.slice sa x.S.length cs,.slice da x.D.length cd,.int .i64 x.g,.bool x.cl] 47)).alloc (.cells #[.slice none 0 0,.slice none 0 0,.int .i64 0,.bool false] 47))=w0 at *;obtain⟨⟨c0,c1,c2,c3⟩,-⟩:=HB.out.F1.facts;obtain⟨⟨d0,d1,d2,d3⟩,⟨f0,f1,f2,f3⟩⟩:=HB.out.F2.facts;have hgd:=fun h=>z7z (z8j (x:=x) h).1;have HGD:=hide hgd;clear hgd;generalize z4f x=R at *
 rcases hcs with⟨h1,hr⟩ | ⟨h1,h2,hr⟩ | ⟨h1,h2,h3,hr⟩ | ⟨h1,h2,h3,hr⟩
 ·have HR:=hide hr;clear hr;go_wp2;exact HB.out.z0L rfl _ _ HR.out _ rfl rfl rfl
 ·have HR:=hide hr;have h2':(R != 0)=true:=by simpa using h2
  clear hr h2
  go_wp2_with (go_at_call 129;refine (HREF.out _ HB.out.L).mono ?_;rintro e w1⟨rfl,hb⟩;have HB1:=hide (HB.out.over hb);clear hb c0 c1 c2 c3 d0 d1 d2 d3 f0 f1 f2 f3;obtain⟨⟨c0,c1,c2,c3⟩,-⟩:=HB1.out.F1.facts;obtain⟨⟨d0,d1,d2,d3⟩,⟨f0,f1,f2,f3⟩⟩:=HB1.out.F2.facts)
  exact HB1.out.z0L rfl _ _ HR.out _ rfl rfl rfl
 ·have HR:=hide hr;subst h2;clear hr
  go_wp2_with (go_at_call 129;refine (HREF.out _ HB.out.L).mono ?_;rintro e w1⟨rfl,hb⟩;have HB1:=hide (HB.out.over hb);clear hb c0 c1 c2 c3 d0 d1 d2 d3 f0 f1 f2 f3;obtain⟨⟨c0,c1,c2,c3⟩,-⟩:=HB1.out.F1.facts;obtain⟨⟨d0,d1,d2,d3⟩,⟨f0,f1,f2,f3⟩⟩:=HB1.out.F2.facts)
  exact HB1.out.z0L rfl _ _ HR.out _ rfl rfl rfl
 ·have HR:=hide hr;subst h2;obtain⟨hl1,hl2,-,-⟩:=HGD.out rfl;have HL1:=hide hl1;clear hr hl1
  go_upto_region 8 with (go_at_call 129;refine (HREF.out _ HB.out.L).mono ?_;rintro e w1⟨rfl,hb⟩;have HB1:=hide (HB.out.over hb);clear hb c0 c1 c2 c3 d0 d1 d2 d3 f0 f1 f2 f3;obtain⟨⟨c0,c1,c2,c3⟩,⟨e0,e1,e2,e3⟩⟩:=HB1.out.F1.facts)
  go_upto_region 9 with (go_at_call 163;refine (q8z x.S sa cs sb so s _ hl2 HB1.out.L.hsa HB1.out.L.ncs HB1.out.L.PS).mono ?_;rintro e w2⟨g1,C1,rfl,hg1,hg1',hS,hb⟩;have HB2:=hide (HB1.out.over hb);have HS:=hide (show _/\_/\_ from⟨hS,hg1,hg1'⟩);have HZ:=hide hb.size;clear hb hS hg1 hg1' c0 c1 c2 c3 e0 e1 e2 e3;obtain⟨⟨c0,c1,c2,c3⟩,⟨e0,e1,e2,e3⟩⟩:=HB2.out.F1.facts)
  have F1:=HB2.out.F1.q9n (.slice (some ⟨g1,0,none⟩) (x.S.length+1) C1);have F2:=HB2.out.F2.other (c:=w.heap.size) (o:=0) (by omega) (.slice (some ⟨g1,0,none⟩) (x.S.length+1) C1)
  have BW:=HB2.out.below.setCell (p:=⟨w.heap.size,0,none⟩) (Nat.le_refl _) (.slice (some ⟨g1,0,none⟩) (x.S.length+1) C1);have PD:=HB2.out.L.PD.z4L ((Below.refl w.heap.size w2).setCell (p:=⟨w.heap.size,0,none⟩) (Nat.le_refl _) (.slice (some ⟨g1,0,none⟩) (x.S.length+1) C1)) HB2.out.ltD;have PS:z3B (w2.setCell ⟨w.heap.size,0,none⟩ (.slice (some ⟨g1,0,none⟩) (x.S.length+1) C1)) g1 0 (x.S ++ [s]):=fun i hi=>(q2x (by have:=HB1.out.size;have:=HS.out.2.1;omega) _).trans (HS.out.1 i hi)
  have hz:(w2.setCell ⟨w.heap.size,0,none⟩ (.slice (some ⟨g1,0,none⟩) (x.S.length+1) C1)).heap.size=w2.heap.size:=by simp
  have hz2:w.heap.size+2<=g1/\g1<w2.heap.size:=⟨by have:=HB1.out.size;have:=HS.out.2.1;omega,HS.out.2.2⟩
  clear c0 c1 c2 c3 e0 e1 e2 e3;generalize (w2.setCell ⟨w.heap.size,0,none⟩ (.slice (some ⟨g1,0,none⟩) (x.S.length+1) C1))=w3 at *;obtain⟨⟨c0,c1,c2,c3⟩,⟨e0,e1,e2,e3⟩⟩:=F1.facts;have HX:=hide (show _/\_/\_/\_/\_/\_/\_ from⟨F1,F2,BW,PD,PS,hz,hz2⟩);clear F1 F2 BW PD PS hz hz2
  go_upto_region 10 with (go_at_call 164;refine (q9u x.D da cd db dO due _ (by rw[HL1.out];exact hl2) HB2.out.L.hda HB2.out.L.ncd HX.out.2.2.2.1).mono ?_;rintro e w4⟨g2,C2,rfl,hg2,hg2',hD,hb⟩;have HY:=hide (show _/\_/\_/\_ from⟨hD,hg2,hg2',hb⟩);have F1:=HX.out.1.later hb HX.out.1.lt;clear hb hD hg2 hg2' c0 c1 c2 c3 e0 e1 e2 e3;obtain⟨⟨c0,c1,c2,c3⟩,⟨e0,e1,e2,e3⟩⟩:=F1.facts)
  have F2:=(HX.out.2.1.later HY.out.2.2.2 HX.out.2.1.lt).other (c:=w.heap.size) (o:=1) (by omega) (.slice (some ⟨g2,0,none⟩) (x.D.length+1) C2)
  have F1':=F1.q7w (.slice (some ⟨g2,0,none⟩) (x.D.length+1) C2);have BW:=(z2d HX.out.2.2.1 HY.out.2.2.2).setCell (p:=⟨w.heap.size,1,none⟩) (Nat.le_refl _) (.slice (some ⟨g2,0,none⟩) (x.D.length+1) C2);have z:=HX.out.2.2.2.2.2;have z2:=HY.out.2.1
  have LN:LAt (w4.setCell ⟨w.heap.size,1,none⟩ (.slice (some ⟨g2,0,none⟩) (x.D.length+1) C2)) ⟨x.S ++ [s],x.D ++ [due],x.g,x.cl⟩ (some ⟨g1,0,none⟩) (some ⟨g2,0,none⟩) C1 C2 g1 0 g2 0:=by
   refine⟨?_,?_,fun _=>rfl,fun _=>rfl,fun h=>(by cases h),fun h=>(by cases h),fun i hi=>?_,fun i hi=>?_⟩
   ·show (x.S ++ [s]).length * 16<=_
    simp;omega
   ·show (x.D ++ [due]).length * 8<=_
    simp[HL1.out];omega
   ·exact (q2x (by omega) _).trans ((HY.out.2.2.2.cell (p:=⟨g1,0+i,none⟩) (by show g1<_;omega)).trans (HX.out.2.2.2.2.1 i hi))
   ·exact (q2x (by omega) _).trans (HY.out.1 i hi)
  clear c0 c1 c2 c3 e0 e1 e2 e3;generalize (w4.setCell ⟨w.heap.size,1,none⟩ (.slice (some ⟨g2,0,none⟩) (x.D.length+1) C2))=w5 at *;obtain⟨⟨c0,c1,c2,c3⟩,-⟩:=F1'.facts;obtain⟨⟨d0,d1,d2,d3⟩,⟨f0,f1,f2,f3⟩⟩:=F2.facts;have HZZ:=hide (show _/\_/\_ from⟨F2,BW,LN⟩);have hne1:g1≠w.heap.size+1:=by omega
  have hne2:g2≠w.heap.size+1:=by omega
  have hge1:w.heap.size<=g1:=by omega
  have hge2:w.heap.size<=g2:=by omega
  have HNE:=hide (show (_/\_)/\_/\_ from⟨⟨hne1,hge1⟩,hne2,hge2⟩);clear F1 F1' F2 BW LN hne1 hne2 hge1 hge2 z z2;go_wp2;exact z7t rfl HZZ.out.1 HZZ.out.2.1 (Nat.le_succ _) ⟨x.S ++ [s],x.D ++ [due],x.g,x.cl⟩ _ _ _ _ _ _ _ _ HZZ.out.2.2 (fun _=>HNE.out.1.1) (fun _=>HNE.out.2.1) (fun _=>.inr HNE.out.1.2) (fun _=>.inr HNE.out.2.2) _ _ (by simp) (by simp) _ _ HR.out _ rfl rfl rfl
end Ln
section
open Go.RowKit
theorem z0y:(prog.info? 43).map (·.size)=some 63:=by kernel_rfl
def SAt(w:World)(b:Nat)(cs:Array Value):Prop:=w.heap[b]?=some (.cells cs 43)
theorem SAt.new(w:World)(cs:Array Value):SAt (w.alloc (.cells cs 43)) w.heap.size cs:=heap_alloc_new _ _
theorem SAt.new2(w:World)(o:Obj)(cs:Array Value):SAt ((w.alloc o).alloc (.cells cs 43)) (w.heap.size+1) cs:=by
 have h:SAt ((w.alloc o).alloc (.cells cs 43)) (w.alloc o).heap.size cs:=SAt.new (w.alloc o) cs
 rwa [show (w.alloc o).heap.size=w.heap.size+1 by simp]at h
theorem SAt.later{w w':World}{b B:Nat}{cs:Array Value}(h:SAt w b cs)(hb:Below B w w')(hB:b<B):SAt w' b cs:=(hb.block b hB).trans h
theorem SAt.alloc{w:World}{b:Nat}{cs:Array Value}(h:SAt w b cs)(o:Obj):SAt (w.alloc o) b cs:=(Below.heap_alloc _ _ _ (Array.getElem?_eq_some_iff.1 h).1).trans h
theorem SAt.lt{w:World}{b:Nat}{cs:Array Value}(h:SAt w b cs):b<w.heap.size:=(Array.getElem?_eq_some_iff.1 h).1
theorem SAt.other{w:World}{b c o:Nat}{cs:Array Value}(h:SAt w b cs)(hb:b≠c)(v:Value):SAt (w.setCell ⟨c,o,none⟩ v) b cs:=(Below.heap_setCell _ _ _ _ hb).trans h
theorem SAt.cell{w:World}{b:Nat}{cs:Array Value}(h:SAt w b cs)(o:Nat):w.cell? ⟨b,o,none⟩=cs[o]?:=by
 unfold SAt at h
 simp[World.cell?,h]
theorem SAt.free{w:World}{b:Nat}{cs:Array Value}(h:SAt w b cs)(o:Nat):w.frozen? ⟨b,o,none⟩=false:=by
 unfold SAt at h
 simp[World.frozen?,h]
theorem SAt.set{w:World}{b:Nat}{cs:Array Value}(h:SAt w b cs)(o:Nat)(v:Value):SAt (w.setCell ⟨b,o,none⟩ v) b (cs.setIfInBounds o v):=by
 unfold SAt at *
 simp[World.setCell,Array.getElem?_modify,h]
theorem SAt.range{w:World}{b:Nat}{cs:Array Value}(h:SAt w b cs):w.rangeAt b 0 cs.toList:=by
 intro j v hv;rw[Nat.zero_add,h.cell]
 simpa using hv
theorem SAt.there{w:World}{b:Nat}{cs:Array Value}(h:SAt w b cs)(o n:Nat)(hn:o+n<=cs.size):w.there b o n:=by
 intro j hj;rw[h.cell,h.free];have:o+j<cs.size:=by omega
 simp[this]
theorem SAt.sets{b:Nat}:∀ (vs:List Value) (o:Nat) (w:World) (cs:Array Value),SAt w b cs->SAt (w.setCells b o vs) b (spl cs o vs)
 | [],_,_,_,h=>h
 | v :: r,o,_,_,h=>SAt.sets r (o+1) _ _ (h.set o v)
theorem SAt.z0H{w:World}{b:Nat}{cs ds:Array Value}(h:SAt w b cs)(hd:ds.size=cs.size):SAt (w.setCells b 0 ds.toList) b ds:=by
 have:=SAt.sets ds.toList 0 w cs h
 rwa [q8i hd]at this
theorem SAt.load{w:World}{b:Nat}{cs:Array Value}(h:SAt w b cs)(hs:cs.size=63):(Instr.loadAt 43 (.pointer (some ⟨b,0,none⟩))).run prog w=.ok (.agg cs) w:=by
 have:=run_loadAt_mid (P:=prog) w b 0 43 cs.toList _ h.range underlying43 rfl (by rw[z0y];simp[hs])
 simpa using this
def Z63:Array Value:=#[.int .i64 0,.int .i64 0,.int .i64 0,.int .i64 0,.int .i64 0,.int .i64 0,.int .i64 0,.int .i64 0,.int .i64 0,.int .i64 0,.bool false,.bool false,.int .i64 0,.int .i64 0,.int .i64 0,.bool false,.bool false,.int .i64 0,.int .i64 0,.int .i64 0,.bool false,.bool false,.int .i64 0,.int .i64 0,.int .i64 0,.bool false,.bool false,.int .i64 0,.int .i64 0,.int .i64 0,.bool false,.bool false,.int .i64 0,.int .i64 0,.int .i64 0,.bool false,.bool false,.int .i64 0,.int .i64 0,.int .i64 0,.int .i64 0,.int .i64 0,.int .i64 0,.int .i64 0,.int .i64 0,.int .i64 0,.int .i64 0,.int .i64 0,.int .i64 0,.int .i64 0,.int .i64 0,.int .i64 0,.int .i64 0,.int .i64 0,.int .i64 0,.int .i64 0,.int .i64 0,.int .i64 0,.int .i64 0,.int .i64 0,.int .i64 0,.slice none 0 0,.int .i64 0]
def vsC(V:Nat->Vd):Array Value:=#[.int .i64 (V 0).tok,.int .i64 (V 0).sh,.int .i64 (V 0).lost,.bool (V 0).jail,.bool (V 0).dead,.int .i64 (V 1).tok,.int .i64 (V 1).sh,.int .i64 (V 1).lost,.bool (V 1).jail,.bool (V 1).dead,.int .i64 (V 2).tok,.int .i64 (V 2).sh,.int .i64 (V 2).lost,.bool (V 2).jail,.bool (V 2).dead,.int .i64 (V 3).tok,.int .i64 (V 3).sh,.int .i64 (V 3).lost,.bool (V 3).jail,.bool (V 3).dead,.int .i64 (V 4).tok,.int .i64 (V 4).sh,.int .i64 (V 4).lost,.bool (V 4).jail,.bool (V 4).dead,.int .i64 (V 5).tok,.int .i64 (V 5).sh,.int .i64 (V 5).lost,.bool (V 5).jail,.bool (V 5).dead]
def shC(S:Nat->Nat->Int):Array Value:=#[.int .i64 (S 0 0),.int .i64 (S 0 1),.int .i64 (S 0 2),.int .i64 (S 0 3),.int .i64 (S 0 4),.int .i64 (S 0 5),.int .i64 (S 1 0),.int .i64 (S 1 1),.int .i64 (S 1 2),.int .i64 (S 1 3),.int .i64 (S 1 4),.int .i64 (S 1 5),.int .i64 (S 2 0),.int .i64 (S 2 1),.int .i64 (S 2 2),.int .i64 (S 2 3),.int .i64 (S 2 4),.int .i64 (S 2 5),.int .i64 (S 3 0),.int .i64 (S 3 1),.int .i64 (S 3 2),.int .i64 (S 3 3),.int .i64 (S 3 4),.int .i64 (S 3 5)]
def bkC(b:Bk):Array Value:=#[.int .i64 b.f0,.int .i64 b.f1,.int .i64 b.f2,.int .i64 b.f3,.int .i64 b.bo,.int .i64 b.wa,.int .i64 b.bu]
def stL(b:Bk)(V:Nat->Vd)(S:Nat->Nat->Int)(sl:Value)(next:Int):List Value:=(bkC b).toList ++ ((vsC V).toList ++ ((shC S).toList ++ [sl,.int .i64 next]))
def stC(s:St)(sl:Value):Array Value:=(stL s.b s.V s.S sl s.next).toArray
theorem z0g(s:St)(sl:Value):(stC s sl).size=63:=rfl
theorem j5Z{w:World}{b:Nat}{s:St}{sl:Value}(h:SAt w b (stC s sl)):w.rangeAt b 7 (vsC s.V).toList:=by
 intro j v hv;have hj:j<30:=(List.getElem?_eq_some_iff.1 hv).1;rw[h.cell];simp only[stC,stL,List.getElem?_toArray];rw[List.getElem?_append_right (by show 7<=7+j;omega),show 7+j - (bkC s.b).toList.length=j from by show 7+j - 7=j;omega,List.getElem?_append_left (show j<(vsC s.V).toList.length from hj)]
 exact hv
theorem z0t{w:World}{b:Nat}{s:St}{sl:Value}(h:SAt w b (stC s sl)):w.cell? ⟨b,0,none⟩=some (.int .i64 s.b.f0)/\w.cell? ⟨b,1,none⟩=some (.int .i64 s.b.f1)/\w.cell? ⟨b,2,none⟩=some (.int .i64 s.b.f2)/\w.cell? ⟨b,3,none⟩=some (.int .i64 s.b.f3)/\w.cell? ⟨b,4,none⟩=some (.int .i64 s.b.bo)/\w.cell? ⟨b,5,none⟩=some (.int .i64 s.b.wa)/\w.cell? ⟨b,6,none⟩=some (.int .i64 s.b.bu)/\w.cell? ⟨b,61,none⟩=some sl/\w.cell? ⟨b,62,none⟩=some (.int .i64 s.next):=
 ⟨(h.cell 0).trans rfl,(h.cell 1).trans rfl,(h.cell 2).trans rfl,(h.cell 3).trans rfl,(h.cell 4).trans rfl,(h.cell 5).trans rfl,(h.cell 6).trans rfl,(h.cell 61).trans rfl,(h.cell 62).trans rfl⟩
theorem j4f:(prog.info? 38).map (·.size)=some 30:=by kernel_rfl
theorem ixV(w:World)(V:Nat->Vd)(k:Nat)(hk:k<6):(Instr.index 38 (.agg (vsC V)) (.int .i64 k)).run prog w=.ok (.agg #[.int .i64 (V k).tok,.int .i64 (V k).sh,.int .i64 (V k).lost,.bool (V k).jail,.bool (V k).dead]) w:=by
 rcases (show k=0∨k=1∨k=2∨k=3∨k=4∨k=5 by omega) with rfl | rfl | rfl | rfl | rfl | rfl <;> kernel_rfl
theorem SAt.val{w:World}{b:Nat}{s:St}{sl:Value}(h:SAt w b (stC s sl))(k:Nat)(hk:k<6):w.cell? ⟨b,7+k * 5,none⟩=some (.int .i64 (s.V k).tok)/\w.cell? ⟨b,7+k * 5+1,none⟩=some (.int .i64 (s.V k).sh)/\w.cell? ⟨b,7+k * 5+2,none⟩=some (.int .i64 (s.V k).lost)/\w.cell? ⟨b,7+k * 5+3,none⟩=some (.bool (s.V k).jail)/\w.cell? ⟨b,7+k * 5+4,none⟩=some (.bool (s.V k).dead):=by
 rcases (show k=0∨k=1∨k=2∨k=3∨k=4∨k=5 by omega) with rfl | rfl | rfl | rfl | rfl | rfl <;> exact⟨(h.cell _).trans rfl,(h.cell _).trans rfl,(h.cell _).trans rfl,(h.cell _).trans rfl,(h.cell _).trans rfl⟩
theorem SAt.shr{w:World}{b:Nat}{s:St}{sl:Value}(h:SAt w b (stC s sl))(d v:Nat)(hd:d<4)(hv:v<6):w.cell? ⟨b,37+d * 6+v,none⟩=some (.int .i64 (s.S d v)):=by
 rcases (show d=0∨d=1∨d=2∨d=3 by omega) with rfl | rfl | rfl | rfl <;> rcases (show v=0∨v=1∨v=2∨v=3∨v=4∨v=5 by omega) with rfl | rfl | rfl | rfl | rfl | rfl <;> exact (h.cell _).trans rfl
theorem z0C(s:St)(sa:Option Addr)(n c:Nat):(stC s (.slice sa n c)).all (·.oneCell')=true:=by simp[stC,stL,bkC,vsC,shC,Value.oneCell']
theorem q7a:(prog.info? 82).map (fun i=>(i.zero,i.size,i.bytes))=some (some (.agg #[.int .i64 0,.int .i64 0,.int .i64 0,.int .i64 0,.int .i64 0,.int .i64 0,.int .i64 0,.int .i64 0]),8,64):=by kernel_rfl
def wtL(x:Wt):List Value:=[.int .i64 x.num,.int .i64 x.d,.int .i64 x.v,.int .i64 x.amt,.int .i64 x.hei,.int .i64 x.due,.int .i64 x.h0,.int .i64 x.h1]
theorem j2C(ao:Option Addr)(n c:Nat)(hn:n<=c)(h0:ao=none->n=0)(hc:(n:Int)<4611686018427387904)(w:World):Calls prog 111 #[.slice ao n c] w fun e w'=>e=.returned (.slice ao n n)/\w=w':=by
 have h1:(n:Int)<=(c:Int):=by omega
 have h2:(0:Int)<=(n:Int):=by omega
 go_enter func111,ntmps111
 cases ao
 ·obtain rfl:=h0 rfl;go_wp2;go_ret;exact⟨rfl,rfl⟩
 ·clear h0;go_wp2;go_ret;exact⟨rfl,rfl⟩
theorem z1Z(x:Wt):(wtL x).length=8:=rfl
def wsL(W:List Wt):List Value:=W.flatMap wtL
theorem z1D:∀ W:List Wt,(wsL W).length=W.length * 8
 | []=>rfl
 | x :: W=>by show (wtL x ++ wsL W).length=_;rw[List.length_append,z1D W,z1Z,List.length_cons];omega
theorem z4B:∀ (W:List Wt) (i:Nat) (x:Wt) (j:Nat),W[i]?=some x->j<8->(wsL W)[i * 8+j]?=(wtL x)[j]?
 | [],i,x,j,h,_=>by simp at h
 | y :: W,0,x,j,h,hj=>by
  simp at h
  subst h
  show (wtL y ++ wsL W)[0 * 8+j]?=_
  rw[List.getElem?_append_left (by rw[z1Z];omega),Nat.zero_mul,Nat.zero_add]
 | y :: W,i+1,x,j,h,hj=>by
  show (wtL y ++ wsL W)[(i+1) * 8+j]?=_
  rw[List.getElem?_append_right (by rw[z1Z];omega),z1Z,show (i+1) * 8+j - 8=i * 8+j by omega]
  exact z4B W i x j (by simpa using h) hj
theorem q3D{w:World}{ao:Option Addr}{b o:Nat}{W:List Wt}(h:z2A w ao b o W):∀ j v,(wsL W)[j]?=some v->w.cell? ⟨b,o+j,none⟩=some v:=by
 intro j v hj;have hl:=(List.getElem?_eq_some_iff.1 hj).1;rw[z1D]at hl;have hi:j / 8<W.length:=by omega
 have hx:W[j / 8]?=some (W[j / 8]'hi):=List.getElem?_eq_getElem hi;have e:=z4B W (j / 8) _ (j % 8) hx (by omega)
 rw[show j / 8 * 8+j % 8=j by omega,hj]at e
 obtain⟨c0,c1,c2,c3,c4,c5,c6,c7⟩:=h.cell _ _ hx;have hd:j=j / 8 * 8+j % 8:=by omega
 generalize W[j / 8]'hi=x at *;generalize hq:j / 8=q at *;have hr:j % 8<8:=by omega
 generalize j % 8=r at *;subst hd
 rcases (show r=0∨r=1∨r=2∨r=3∨r=4∨r=5∨r=6∨r=7 by omega) with rfl | rfl | rfl | rfl | rfl | rfl | rfl | rfl <;> simp[wtL]at e <;> subst e <;> rw[← Nat.add_assoc] <;> assumption
theorem q3f{w:World}{b:Nat}{W:List Wt}(hl:W.length * 64<=140737488351232)(h:∀ j v,(wsL W)[j]?=some v->w.cell? ⟨b,j,none⟩=some v):z2A w (some ⟨b,0,none⟩) b 0 W:=by
 refine⟨fun _=>rfl,hl,fun i x hx=>?_⟩
 have k:∀ j,j<8->∀ v,(wtL x)[j]?=some v->w.cell? ⟨b,0+i * 8+j,none⟩=some v:=fun j hj v hv=>by
  rw[Nat.zero_add];exact h _ _ ((z4B W i x j hx hj).trans hv)
 exact⟨k 0 (by omega) _ rfl,k 1 (by omega) _ rfl,k 2 (by omega) _ rfl,k 3 (by omega) _ rfl,k 4 (by omega) _ rfl,k 5 (by omega) _ rfl,k 6 (by omega) _ rfl,k 7 (by omega) _ rfl⟩
theorem j4i(w:World)(L:List Wt)(arr tail:Array Value)(ha:arr.toList=wsL L)(e:TypeId)(hl:L.length * 64<=140737488351232):z2A (w.drew.alloc (.cells (arr ++ tail) e)) (some ⟨w.heap.size,0,none⟩) w.heap.size 0 L:=by
 refine q3f hl fun j v hj=>?_;have h:(w.drew.alloc (.cells (arr ++ tail) e)).heap[w.heap.size]?=some (.cells (arr ++ tail) e):=heap_alloc_new w.drew _;have hj':arr[j]?=some v:=by rw[← ha]at hj;simpa using hj
 have hlt:=(Array.getElem?_eq_some_iff.1 hj').1;simp only[World.cell?,h];rw[Array.getElem?_append_left hlt]
 simp[hj']
theorem ap1(w:World)(ao:Option Addr)(sb so y:Nat)(W:List Wt)(x:Wt)(hW:z2A w ao sb so W)(h60:W.length<=60)(hy:∀ j v,(wtL x)[j]?=some v->w.cell? ⟨y,j,none⟩=some v) :
  ∃ C w',(Builtin.append_ #[41,41] 41 #[.slice ao W.length W.length,.slice (some ⟨y,0,none⟩) 1 1]).run prog w=.ok (.slice (some ⟨w.heap.size,0,none⟩) (W.length+1) C) w'/\W.length+1<=C /\
   z2A w' (some ⟨w.heap.size,0,none⟩) w.heap.size 0 (W ++ [x])/\Below w.heap.size w w':=by
 obtain⟨i0,hi,hz0,hz1,hz2⟩:=info_parts q7a;have hnews:∀ j v,(wtL x)[j]?=some v->w.cell? ((⟨y,0,none⟩:Addr).add j)=some v:=fun j v hv=>by rw[Addr.add_lit,Nat.zero_add];exact hy j v hv
 have hL:wsL (W ++ [x])=wsL W ++ wtL x:=by unfold wsL;rw[List.flatMap_append];simp
 have hnx:∀ n:Nat,n<=60->Builtin.nextslicecap (n+1) n * 64<=281474976710656:=fun n hn=>by
  rcases Nat.eq_zero_or_pos n with rfl | hp
  ·rw[nextslicecap_zero (by omega)];omega
  ·have:=nextslicecap_succ hp;omega
 cases ao with
 | none =>
  have h0:W.length=0:=by
   rcases Nat.eq_zero_or_pos W.length with h0 | h0
   ·exact h0
   ·have:=hW.adr h0;cases this
  obtain rfl:W=[]:=List.length_eq_zero_iff.1 h0;refine⟨_,_,run_append_nil (P:=prog) w 41 41 82 i0 _ underlying41 hi hz0 ⟨y,0,none⟩ 1 1 (wtL x) (by rw[hz1];rfl) hnews (by omega) (by omega) (by rw[hz2];omega),grownCap_ge _ _ _ _,?_,(Below.refl _ w).drew.alloc (Nat.le_refl _) _⟩
  exact j4i w [x] _ _ (by simp[wsL]) _ (by simp)
 | some a =>
  have hold:∀ j v,(wsL W)[j]?=some v->w.cell? (a.add j)=some v:=fun j v hv=>by
   have h0:0<W.length:=by
    have:=(List.getElem?_eq_some_iff.1 hv).1;rw[z1D]at this;omega
   have:=hW.adr h0;cases this;rw[Addr.add_lit];exact q3D hW j v hv
  refine⟨_,_,run_append_grow (P:=prog) w 41 41 82 i0 _ underlying41 hi hz0 a W.length W.length (wsL W) (by rw[z1D,hz1]) hold ⟨y,0,none⟩ 1 1 (wtL x) (by rw[hz1];rfl) hnews (by omega) (by omega) (by rw[hz2];exact hnx _ h60),grownCap_ge _ _ _ _,?_,(Below.refl _ w).drew.alloc (Nat.le_refl _) _⟩
  exact j4i w (W ++ [x]) _ _ (by simp[hL]) _ (by simp;omega)
theorem z1n{w w':World}{b e z n:Nat}{v:Value}{xs:List Value}(h:w.ownsRow b e z v n xs)(hk:∀ k,v.ownBlock=some k->w'.heap[k]?=w.heap[k]?):w'.ownsRow b e z v n xs:=by
 refine⟨h.1,?_⟩
 rcases h.2 with hn | ⟨g,cap,cur,rfl,hb,hg,rest⟩
 ·exact .inl hn
 ·exact .inr ⟨g,cap,cur,rfl,hb,(hk g rfl).trans hg,rest⟩
def z2y(B:Nat)(w:World)(A:Option Addr)(C:Nat)(W:List Wt):Prop:=w.ownsRow B 82 8 (.slice A W.length C) W.length (wsL W)
theorem z2y.to{B:Nat}{w w':World}{A:Option Addr}{C:Nat}{W:List Wt}(h:z2y B w A C W)(hk:∀ k,B<=k->k<w.heap.size->w'.heap[k]?=w.heap[k]?):z2y B w' A C W:=z1n h fun k hv=>hk k (h.lt k hv).1 (h.lt k hv).2
theorem z2y.over{B:Nat}{w w':World}{A:Option Addr}{C:Nat}{W:List Wt}(h:z2y B w A C W)(hb:Below w.heap.size w w'):z2y B w' A C W:=h.to fun k _ hk=>hb.block k hk
theorem z2y.cap{B:Nat}{w:World}{A:Option Addr}{C:Nat}{W:List Wt}(h:z2y B w A C W):W.length<=C:=by
 rcases h.2 with⟨hv,hn⟩ | ⟨g,cap,cur,hv,_,_,hc,_⟩
 ·omega
 ·cases hv;exact hc
theorem ap3(B:Nat)(w:World)(A:Option Addr)(C y:Nat)(W:List Wt)(x:Wt)(h:z2y B w A C W)(h60:W.length<=60)(hB:B<=w.heap.size)(hy:∀ j v,(wtL x)[j]?=some v->w.cell? ⟨y,j,none⟩=some v) :
  ∃ g C' w',(Builtin.append_ #[41,41] 41 #[.slice A W.length C,.slice (some ⟨y,0,none⟩) 1 1]).run prog w=.ok (.slice (some ⟨g,0,none⟩) (W.length+1) C') w'/\z2y B w' (some ⟨g,0,none⟩) C' (W ++ [x])/\B<=g/\g<w'.heap.size/\Below B w w'/\(∀ k,k<w.heap.size->some k≠(Value.slice A W.length C).ownBlock->g≠k/\w'.heap[k]?=w.heap[k]?):=by
 obtain⟨i0,hi,hz0,hz1,hz2⟩:=info_parts q7a;have hL:wsL (W ++ [x])=wsL W ++ wtL x:=by unfold wsL;rw[List.flatMap_append];simp
 obtain⟨g,cap,w',hr,ho,hg,hat,hlt⟩:=run_append_lies (P:=prog) w 41 41 B 82 i0 _ 8 64 underlying41 hi hz0 hz1 hz2 rfl (by omega) (.slice A W.length C) W.length (wsL W) h ⟨y,0,none⟩ 1 1 (wtL x) rfl (fun j v hv=>by rw[Addr.add_lit,Nat.zero_add];exact hy j v hv) (by intro u hu;simp[wtL]at hu;rcases hu with rfl | rfl | rfl | rfl | rfl | rfl | rfl | rfl <;> rfl) (by omega) (by simp only[maxLen];omega) (by omega) hB _ rfl
 have ho':z2y B w' (some ⟨g,0,none⟩) cap (W ++ [x]):=by
  unfold z2y;rw[hL,List.length_append];exact ho
 refine⟨g,cap,w',hr,ho',?_,hlt,⟨hg.os,hg.tape,hg.output,hg.size,fun k hk=>hg.block k (by omega) (fun he=>?_)⟩,fun k hk hne=>⟨?_,hg.block k hk hne⟩⟩
 ·exact (ho'.lt g rfl).1
 ·have:=(h.lt k he.symm).1;omega
 ·rcases hat with hat | hat
  ·rintro rfl;exact hne hat.symm
  ·omega
theorem z9e{ops:Array Oper}{rest:List Oper}{o:Oper}{a:Act}{w:World}{Q:Exit->Act->World->Prop}(hg:o.guard=none)(hty:o.type=41)(p q:Operand)
  (hop:o.op=Op.call { callee:=Callee.builtin Builtin.append,args:=#[p,q],argTypes:=#[41,41] }) (B:Nat) (A:Option Addr) (C y:Nat) (W:List Wt) (x:Wt) (hs:a.eval p=.slice A W.length C) (hx:a.eval q=.slice (some ⟨y,0,none⟩) 1 1)
  (h:z2y B w A C W) (h60:W.length<=60) (hB:B<=w.heap.size) (hy:∀ j v,(wtL x)[j]?=some v->w.cell? ⟨y,j,none⟩=some v)
  (hK:∀ g C' w',z2y B w' (some ⟨g,0,none⟩) C' (W ++ [x])/\B<=g/\g<w'.heap.size/\Below B w w'/\(∀ k,k<w.heap.size->some k≠(Value.slice A W.length C).ownBlock->g≠k/\w'.heap[k]?=w.heap[k]?)->wpList prog ops Q rest (a.put o.dst (.slice (some ⟨g,0,none⟩) (W.length+1) C')) w'):wpList prog ops Q (o :: rest) a w:=by
 refine wpList_plain hg fun _ hK'=>?_;unfold Oper.wp;obtain⟨g,C',w',hr,h1⟩:=ap3 B w A C y W x h h60 hB hy
 simp[execOp,hop,resolve,invoke,builtin,hs,hx,hty,hr,Result.andThen]
 exact hK' _ _ (hK _ _ _ h1)
theorem eqA(w:World)(a0 a1 a2 a3 b0 b1 b2 b3:Int):(Op.equalIn 9999 33 (.agg #[.int .i64 a0,.int .i64 a1,.int .i64 a2,.int .i64 a3]) (.agg #[.int .i64 b0,.int .i64 b1,.int .i64 b2,.int .i64 b3])).run prog w=.ok (decide (a0=b0/\a1=b1/\a2=b2/\a3=b3)) w:=by
 have hi:(prog.info? 3).isSome=true:=by kernel_rfl
 obtain⟨i,hi⟩:=Option.isSome_iff_exists.1 hi;have hc:prog.cellsOf 3=1:=by kernel_rfl
 rw[run_equalIn_array w 9998 _ _ underlying33 hi,hc,show List.range 4=[0,1,2,3] from rfl];simp only[Op.eqItems];go_simp
 by_cases h0:a0=b0 <;> by_cases h1:a1=b1 <;> by_cases h2:a2=b2 <;> by_cases h3:a3=b3 <;> simp[h0,h1,h2,h3]
theorem eqB(w:World)(a0 a1 a2 a3 a4 a5 a6 b0 b1 b2 b3 b4 b5 b6:Int):(binOp .eql 35 (.agg #[.int .i64 a0,.int .i64 a1,.int .i64 a2,.int .i64 a3,.int .i64 a4,.int .i64 a5,.int .i64 a6]) (.agg #[.int .i64 b0,.int .i64 b1,.int .i64 b2,.int .i64 b3,.int .i64 b4,.int .i64 b5,.int .i64 b6])).run prog w=.ok (.bool (decide (a0=b0/\a1=b1/\a2=b2/\a3=b3/\a4=b4/\a5=b5/\a6=b6))) w:=by
 have h:=fun w=>eqA w a0 a1 a2 a3 b0 b1 b2 b3;rw[run_eql_struct]
 by_cases hh:a0=b0/\a1=b1/\a2=b2/\a3=b3
 ·rw[decide_eq_true hh]at h;obtain⟨h0,h1,h2,h3⟩:=hh;go_simp;subst h0 h1 h2 h3
  by_cases h4:a4=b4 <;> by_cases h5:a5=b5 <;> by_cases h6:a6=b6 <;> simp[h4,h5,h6,h]
 ·rw[decide_eq_false hh]at h;have e:decide (a0=b0/\a1=b1/\a2=b2/\a3=b3/\a4=b4/\a5=b5/\a6=b6)=false:=decide_eq_false (fun g=>hh ⟨g.1,g.2.1,g.2.2.1,g.2.2.2.1⟩);rw[e];go_simp
end
namespace Ra
open Go.RowKit
def inB(n:Int):Bool:=decide (0<=n) && decide (n<=1125899906842624)
theorem j1z{n:Int}(h0:0<=n)(h1:n<=1125899906842624):inB n=true:=by simp[inB,h0,h1]
theorem j5z{n:Int}(h:¬ 0<=n):inB n=false:=by simp[inB,h]
theorem j1D{n:Int}(h:¬ n<=1125899906842624):inB n=false:=by simp[inB,h]
theorem q7d{n:Int}:inB n=true↔0<=n/\n<=1125899906842624:=by simp[inB]
theorem y1s(n:Int)(w:World):Calls prog 147 #[.int .i64 n] w fun e w'=>e=.returned (.bool (inB n))/\w'=w:=by
 by_cases h0:0<=n
 ·by_cases h1:n<=1125899906842624
  ·rw[j1z h0 h1]
   go_enter func147,ntmps147
   go_wp2;go_ret;exact⟨rfl,rfl⟩
  ·rw[j1D h1]
   go_enter func147,ntmps147
   go_wp2;go_ret;exact⟨rfl,rfl⟩
 ·rw[j5z h0]
  go_enter func147,ntmps147
  go_wp2;go_ret;exact⟨rfl,rfl⟩
def ptN(n f:Int):Int:=if inB n=true/\0<=f/\f<=1000 then n * f / 1000 else 0
def ptE(n f:Int):Int:=if inB n=true/\0<=f/\f<=1000 then 0 else 2
theorem j0h{n f:Int}(h:inB n=true/\0<=f/\f<=1000):ptN n f=n * f / 1000/\ptE n f=0:=by unfold ptN ptE;rw[if_pos h,if_pos h];exact⟨rfl,rfl⟩
theorem q7h{n f:Int}(h:¬ (inB n=true/\0<=f/\f<=1000)):ptN n f=0/\ptE n f=2:=by unfold ptN ptE;rw[if_neg h,if_neg h];exact⟨rfl,rfl⟩
theorem y0M{n f:Int}(h0:0<=n)(f0:0<=f)(f1:f<=1000):0<=n * f / 1000/\n * f / 1000<=n:=by
 have h1:0<=n * f:=Int.mul_nonneg h0 f0;have h2:=Int.mul_le_mul_of_nonneg_left f1 h0;omega
theorem j8O(n f:Int)(w:World):Calls prog 154 #[.int .i64 n,.int .i64 f] w fun e w'=>e=.returned (.tuple #[.int .i64 (ptN n f),.int .i64 (ptE n f)])/\Below w.heap.size w w':=by
 have ci:=y1s n
 by_cases hi:inB n=true
 ·obtain⟨n0,n1⟩:=q7d.1 hi
  by_cases f0:f<0
  ·obtain⟨e1,e2⟩:=q7h (n:=n) (f:=f) (by omega)
   rw[e1,e2];rw[hi]at ci;clear e1 e2 hi
   go_enter func154,ntmps154
   go_wp2_with (go_at_call 147;refine (ci _).mono ?_;rintro e w'⟨rfl,rfl⟩)
   go_ret2;exact⟨rfl,⟨rfl,rfl,rfl,Nat.le_refl _,fun _ _=>rfl⟩⟩
  ·by_cases f1:1000<f
   ·obtain⟨e1,e2⟩:=q7h (n:=n) (f:=f) (by omega)
    rw[e1,e2];rw[hi]at ci;clear e1 e2 hi
    go_enter func154,ntmps154
    go_wp2_with (go_at_call 147;refine (ci _).mono ?_;rintro e w'⟨rfl,rfl⟩)
    go_ret2;exact⟨rfl,⟨rfl,rfl,rfl,Nat.le_refl _,fun _ _=>rfl⟩⟩
   ·obtain⟨e1,e2⟩:=j0h (n:=n) (f:=f) ⟨hi,by omega,by omega⟩
    have cm:=j3I n f 1000 (by omega) (by omega) (by omega)
    have hl:=y0M (n:=n) (f:=f) n0 (by omega) (by omega)
    obtain⟨e3,e4⟩:=q8c (a:=n) (b:=f) (c:=1000) n0 (by omega) (by omega) (by omega)
    rw[e3,e4]at cm;rw[e1,e2];rw[hi]at ci;generalize n * f / 1000=x at *;clear e1 e2 e3 e4 hi
    go_enter func154,ntmps154
    go_wp2_with (first | (go_at_call 147;refine (ci _).mono ?_;rintro e w'⟨rfl,rfl⟩) | (go_at_call 148;refine (cm _).mono ?_;rintro e w'⟨rfl,hg⟩))
    go_ret2;exact⟨rfl,hg⟩
 ·obtain⟨e1,e2⟩:=q7h (n:=n) (f:=f) (by simp[hi])
  rw[e1,e2];have hi':inB n=false:=by simpa using hi
  rw[hi']at ci;clear e1 e2 hi hi'
  go_enter func154,ntmps154
  go_wp2_with (go_at_call 147;refine (ci _).mono ?_;rintro e w'⟨rfl,rfl⟩)
  go_ret2;exact⟨rfl,⟨rfl,rfl,rfl,Nat.le_refl _,fun _ _=>rfl⟩⟩
end Ra
section
open Go.RowKit
theorem j8z(w:World)(a:Option Addr)(n c:Nat):(binOp .eql 41 (.slice a n c) (.slice none 0 0)).run prog w=.ok (.bool a.isNone) w:=by
 simp[binOp,run_equal_slice_nil w 41 82 a n c underlying41]
theorem q7v(c:Nat)(w:World):Calls prog 40 #[.slice none 0 c] w fun e w'=>e=.returned (.slice none 0 0)/\w=w':=by
 have hq:=fun w=>j8z w none 0 c
 go_enter func40,ntmps40
 go_wp2;go_ret;exact⟨rfl,rfl⟩
theorem j7B(W:List Wt):∀ u∈wsL W,u.oneCell'=true:=by
 intro u hu;obtain⟨x,_,hx⟩:=List.mem_flatMap.1 hu
 simp[wtL]at hx
 rcases hx with rfl | rfl | rfl | rfl | rfl | rfl | rfl | rfl <;> rfl
theorem j6m(w:World):(w.alloc (.cells #[] 82)).ownsRow w.heap.size 82 8 (.slice (some ⟨w.heap.size,0,none⟩) 0 0) 0 []:=⟨rfl,.inr ⟨w.heap.size,0,#[],rfl,Nat.le_refl _,heap_alloc_new _ _,Nat.le_refl _,Nat.zero_le _,rfl,rfl⟩⟩
theorem j2f(w:World)(a:Addr)(c sb so:Nat)(W:List Wt)(hW:z2A w (some a) sb so W) :
  ∃ A C w',(Builtin.append_ #[41,41] 41 #[.slice (some ⟨w.heap.size,0,none⟩) 0 0,.slice (some a) W.length c]).run prog (w.alloc (.cells #[] 82))=.ok (.slice A W.length C) w'/\z2y w.heap.size w' A C W/\Below w.heap.size w w':=by
 obtain⟨i0,hi,hz0,hz1,hz2⟩:=info_parts q7a;have hl:=hW.len
 obtain⟨v',w',hr,ho,hg,-,hat⟩:=run_append_own_at (P:=prog) (w.alloc (.cells #[] 82)) w.heap.size 41 41 82 i0 _ 8 64 underlying41 hi hz0 hz1 hz2 rfl (by omega) _ 0 [] (j6m w) a W.length c (wsL W) (z1D W)
  (fun j u hj=>by
   have h0:0<W.length:=by
    have:=(List.getElem?_eq_some_iff.1 hj).1;rw[z1D]at this;omega
   have ha:=hW.adr h0;cases ha;rw[Addr.add_lit]
   exact q3D (hW.over (znw w _)) j u hj) (j7B W) (by simp only[maxLen];omega) (by omega) (by simp)
 rw[Nat.zero_add,List.nil_append]at ho
 have hv:∃ A C,v'=.slice A W.length C:=by
  rcases ho.2 with⟨rfl,h0⟩ | ⟨g,cap,cur,rfl,_⟩
  ·rw[h0];exact⟨none,0,rfl⟩
  ·exact⟨_,_,rfl⟩
 obtain⟨A,C,rfl⟩:=hv;refine⟨A,C,w',hr,ho,?_⟩;have hb:=(Below.refl w.heap.size w).alloc (Nat.le_refl _) (.cells #[] 82);exact⟨hg.os.trans hb.os,hg.tape.trans hb.tape,hg.output.trans hb.output,Nat.le_trans hb.size hg.size,fun k hk=>(hg.block k (by simp;omega) (by simp[Value.ownBlock];omega)).trans (hb.block k hk)⟩
theorem q7S{ops:Array Oper}{rest:List Oper}{o:Oper}{a:Act}{w:World}{Q:Exit->Act->World->Prop}(hg:o.guard=none)(hty:o.type=41)(p q:Operand)
  (hop:o.op=Op.call { callee:=Callee.builtin Builtin.append,args:=#[p,q],argTypes:=#[41,41] }) (ad:Addr) (c sb so:Nat) (W:List Wt) (hs:a.eval p=.slice (some ⟨w.heap.size,0,none⟩) 0 0) (hx:a.eval q=.slice (some ad) W.length c) (hW:z2A w (some ad) sb so W)
  (hK:∀ A C w',z2y w.heap.size w' A C W/\Below w.heap.size w w'->wpList prog ops Q rest (a.put o.dst (.slice A W.length C)) w'):wpList prog ops Q (o :: rest) a (w.alloc (.cells #[] 82)):=by
 refine wpList_plain hg fun _ hK'=>?_;unfold Oper.wp;obtain⟨A,C,w',hr,h1⟩:=j2f w ad c sb so W hW
 simp[execOp,hop,resolve,invoke,builtin,hs,hx,hty,hr,Result.andThen]
 exact hK' _ _ (hK _ _ _ h1)
theorem q6u(a:Addr)(W:List Wt)(c sb so:Nat)(w:World)(hW:z2A w (some a) sb so W):Calls prog 40 #[.slice (some a) W.length c] w fun e w'=>∃ A C,e=.returned (.slice A W.length C)/\z2y w.heap.size w' A C W/\Below w.heap.size w w':=by
 have hq:=fun w=>j8z w (some a) W.length c
 go_enter func40,ntmps40
 go_upto_region 3 with fail
 apply wp_region_lit
 iterate 6 go_step
 refine q7S rfl rfl _ _ rfl a c sb so W rfl rfl hW ?_;rintro A C w'⟨h1,h2⟩;have H1:=hide h1;have H2:=hide h2;clear h1 h2;go_wp2;go_ret;exact⟨A,C,rfl,H1.out,H2.out⟩
theorem z3R(ao:Option Addr)(W:List Wt)(c sb so:Nat)(w:World)(hW:z2A w ao sb so W):Calls prog 40 #[.slice ao W.length c] w fun e w'=>∃ A C,e=.returned (.slice A W.length C)/\z2y w.heap.size w' A C W/\Below w.heap.size w w':=by
 cases ao with
 | some a=>exact q6u a W c sb so w hW
 | none =>
  have h0:W.length=0:=by
   rcases Nat.eq_zero_or_pos W.length with h0 | h0
   ·exact h0
   ·have:=hW.adr h0;cases this
  obtain rfl:W=[]:=List.length_eq_zero_iff.1 h0;refine (q7v c w).mono ?_;rintro e w'⟨rfl,rfl⟩;exact⟨none,0,rfl,⟨rfl,.inl ⟨rfl,rfl⟩⟩,Below.refl _ _⟩
end
end Go.Proofs.YtmopekkhmhhcaaaGreat
