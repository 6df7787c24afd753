/-
 awake: the program returns the results of the document's examples.
-/
import Derived.Test.YtombhkpniddceaaGreatDoorM43
set_option maxHeartbeats 25600000
set_option maxRecDepth 100000
set_option synthInstance.maxSize 20000
set_option linter.all false
namespace Go.Proofs.YtombhkpniddceaaGreatDoor
open Go.RowKit Go.Sort Go.Lib
theorem mat22 {w:World} {g g1 g2:Nat} {t t1 t2:TypeId} {a b c d:List UInt8} [h:Blk w g t #[.slice (some ⟨g1,0,none⟩) 2 2,.slice (some ⟨g2,0,none⟩) 2 2]] [h1:Blk w g1 t1 #[str a,str b]] [h2:Blk w g2 t2 #[str c,str d]]:MAt w (some ⟨g,0,none⟩) [[a,b],[c,d]]:=zlI (r1:=[a,b]) (r2:=[c,d]) h h1 h2 rfl rfl
theorem mat23 {w:World} {g g1 g2:Nat} {t t1 t2:TypeId} {a b c d e f:List UInt8} [h:Blk w g t #[.slice (some ⟨g1,0,none⟩) 3 3,.slice (some ⟨g2,0,none⟩) 3 3]] [h1:Blk w g1 t1 #[str a,str b,str c]] [h2:Blk w g2 t2 #[str d,str e,str f]]:MAt w (some ⟨g,0,none⟩) [[a,b,c],[d,e,f]]:=zlI (r1:=[a,b,c]) (r2:=[d,e,f]) h h1 h2 rfl rfl
theorem sat2 {w:World} {g:Nat} {t:TypeId} {a b:List UInt8} [h:Blk w g t #[str a,str b]]:SAt w (some ⟨g,0,none⟩) [a,b]:=ziQ (l:=[a,b]) h
theorem iat3 {w:World} {g:Nat} {t:TypeId} {a b c:Int} [h:Blk w g t #[.int .i64 a,.int .i64 b,.int .i64 c]]:IAt w (some ⟨g,0,none⟩) [a,b,c]:=zlU (ws:=[a,b,c]) h
theorem IAt.nxt {w w':World} {A:Option Addr} {l:List Int} (h:IAt w A l) (hn:Nxt w w'):IAt w' A l:=fun i x hx=>by
 obtain ⟨ad,e,hc⟩:=h i x hx
 exact ⟨ad,e,zaB hn hc⟩
theorem zlf {w:World} {A B:Option Addr} {c d n:Nat} {l:List (List (List UInt8))} (h1:MAt w A l) (h2:MAt w B l) (hl:l.length=n) (hn:n < 2 ^ 40) (hs:∀ r ∈ l,r.length < 2 ^ 40):
  Calls Tryz.prog 55 #[.slice A n c,.slice B n d] w (PRet w (.bool true)):=by
 refine zf (zgs A B c d n n l l w h1 h2 hl hl hn hn hs hs) ?_
 rintro e w' ⟨rfl,hd⟩
 obtain ⟨k,rfl⟩:=hd
 exact ⟨by rw [decide_eq_true rfl],zaa⟩
theorem zle {w:World} {A B:Option Addr} {c d n:Nat} {l:List (List UInt8)} (h1:SAt w A l) (h2:SAt w B l) (hl:l.length=n) (hn:n < 2 ^ 40):
  Calls Tryz.prog 54 #[.slice A n c,.slice B n d] w (PRet w (.bool true)):=by
 refine zf (zfj A B c d n n l l w h1 h2 hl hl hn hn) ?_
 rintro e w' ⟨rfl,hd⟩
 obtain ⟨k,rfl⟩:=hd
 exact ⟨by rw [decide_eq_true rfl],zaa⟩
theorem zki {w:World} {A B:Option Addr} {c d n:Nat} {l:List Int} (h1:IAt w A l) (h2:IAt w B l) (hl:l.length=n) (hn:n < 2 ^ 40):
  Calls Tryz.prog 69 #[.slice A n c,.slice B n d] w (PRet w (.bool true)):=by
 refine zf (zhH A B c d n n l l w h1 h2 hl hl hn hn) ?_
 rintro e w' ⟨rfl,hd⟩
 obtain ⟨k,rfl⟩:=hd
 exact ⟨by rw [decide_eq_true rfl],zaa⟩
@[go_sem] theorem float_eq (w:World):(binOp .eql 87 (.float .f32 1266679808) (.float .f32 1266679808)).run Tryz.prog w = .ok (.bool true) w:=by kernel_rfl
theorem ex_draw {w:World}:Calls Tryz.prog 68 #[.int .i64 1,.int .i64 3] w (fun e w'=>∃ C,e = .returned (.tuple #[.slice C 3 3,.int .i64 0])/\IAt w' C [0,2,1]/\Nxt w w'):=by
 refine zf (znt 1 3 (by decide) (by decide) (by decide) w) ?_
 rintro e w' ⟨rfl,hb,hx⟩
 rw [show zdW 1 3=[0,2,1] by decide +kernel] at hb
 exact ⟨_,rfl,zlU hb,hx⟩
theorem awake_c {w:World} [hg:Glo w]:Calls Tryz.prog 8 #[] w (fun e w'=>e = .returned (.bool true)/\Nxt w w'):=by
 go_enter Tryz.func8,Tryz.ntmps8
 go_wp2_with fail
 refine zf (ex_of) ?_
 rintro e u1_0 ⟨rfl,x1_0⟩
 go_upto_region 2 with fail
 have n1:Nxt w u1_0:=zaa
 have a1:Nxt w u1_0:=n1
 have nw:=a1
 have hg':Glo u1_0:=za
 clear hg a1
 have hg:=hg'
 clear hg'
 clear n1 x1_0
 go_wp2_with fail
 refine zf (zno) ?_
 rintro e u2_0 ⟨rfl,x2_0⟩
 go_upto_region 3 with fail
 have n2:Nxt u1_0 u2_0:=zaa
 have a2:Nxt w u2_0:=⟨nw.out.trans (n2.out.mono nw.out.size)⟩
 clear nw
 have nw:=a2
 have hg':Glo u2_0:=za
 clear hg a2
 have hg:=hg'
 clear hg'
 clear n2 x2_0
 go_wp2_with fail
 refine zf (zcN (a:=[45,49]) (b:=[50])) ?_
 rintro e u3_0 ⟨rfl,x3_0⟩
 go_wp2_with fail
 refine zf (zcN (a:=[45,51]) (b:=[52])) ?_
 rintro e u3_1 ⟨rfl,x3_1⟩
 go_wp2_with fail
 refine zf (znk) ?_
 rintro e u3_2 ⟨rfl,x3_2⟩
 go_upto_region 4 with fail
 have n3:Nxt u2_0 (u3_2.alloc (.cells #[str [45,54],str [56]] 24)):=zaa
 have g5b:Blk (u3_2.alloc (.cells #[str [45,54],str [56]] 24)) u3_2.heap.size 24 #[str [45,54],str [56]]:=za
 obtain ⟨g5,hg5⟩:∃ g,u3_2.heap.size=g:=⟨_,rfl⟩
 rw [hg5] at g5b
 rw [hg5]
 clear hg5
 have a3:Nxt w (u3_2.alloc (.cells #[str [45,54],str [56]] 24)):=⟨nw.out.trans (n3.out.mono nw.out.size)⟩
 clear nw
 generalize (u3_2.alloc (.cells #[str [45,54],str [56]] 24))=V3 at *
 have nw:=a3
 have hg':Glo V3:=za
 clear hg a3
 have hg:=hg'
 clear hg'
 clear n3 x3_0 x3_1 x3_2
 go_wp2_with fail
 refine zf (zcN (a:=[49]) (b:=[50])) ?_
 rintro e u4_0 ⟨rfl,x4_0⟩
 go_wp2_with fail
 refine zf (zcN (a:=[52]) (b:=[56])) ?_
 rintro e u4_1 ⟨rfl,x4_1⟩
 go_wp2_with fail
 refine zf (ex_over) ?_
 rintro e u4_2 ⟨rfl,x4_2⟩
 go_upto_region 5 with fail
 have n4:Nxt V3 (u4_2.alloc (.cells #[str [49,47,56],str [49,47,50]] 24)):=zaa
 have g7b:Blk (u4_2.alloc (.cells #[str [49,47,56],str [49,47,50]] 24)) u4_2.heap.size 24 #[str [49,47,56],str [49,47,50]]:=za
 obtain ⟨g7,hg7⟩:∃ g,u4_2.heap.size=g:=⟨_,rfl⟩
 rw [hg7] at g7b
 rw [hg7]
 clear hg7
 have a4:Nxt w (u4_2.alloc (.cells #[str [49,47,56],str [49,47,50]] 24)):=⟨nw.out.trans (n4.out.mono nw.out.size)⟩
 clear nw
 generalize (u4_2.alloc (.cells #[str [49,47,56],str [49,47,50]] 24))=V4 at *
 have nw:=a4
 have hg':Glo V4:=za
 clear hg a4
 have hg:=hg'
 clear hg'
 have g5b':=Blk.nxt (h:=n4) (k:=g5b)
 clear g5b
 have g5b:=g5b'
 clear g5b'
 clear n4 x4_0 x4_1 x4_2
 go_wp2_with fail
 refine zf (zcN (a:=[45,49]) (b:=[50])) ?_
 rintro e u5_0 ⟨rfl,x5_0⟩
 go_wp2_with fail
 refine zf (zl3) ?_
 rintro e u5_1 ⟨rfl,x5_1⟩
 go_upto_region 6 with fail
 have n5:Nxt V4 (u5_1.alloc (.cells #[str [48],str [52]] 24)):=zaa
 have g9b:Blk (u5_1.alloc (.cells #[str [48],str [52]] 24)) u5_1.heap.size 24 #[str [48],str [52]]:=za
 obtain ⟨g9,hg9⟩:∃ g,u5_1.heap.size=g:=⟨_,rfl⟩
 rw [hg9] at g9b
 rw [hg9]
 clear hg9
 have a5:Nxt w (u5_1.alloc (.cells #[str [48],str [52]] 24)):=⟨nw.out.trans (n5.out.mono nw.out.size)⟩
 clear nw
 generalize (u5_1.alloc (.cells #[str [48],str [52]] 24))=V5 at *
 have nw:=a5
 have hg':Glo V5:=za
 clear hg a5
 have hg:=hg'
 clear hg'
 have g5b':=Blk.nxt (h:=n5) (k:=g5b)
 have g7b':=Blk.nxt (h:=n5) (k:=g7b)
 clear g5b g7b
 have g5b:=g5b'; have g7b:=g7b'
 clear g5b' g7b'
 clear n5 x5_0 x5_1
 go_wp2_with fail
 refine zf (zcN (a:=[49]) (b:=[50])) ?_
 rintro e u6_0 ⟨rfl,x6_0⟩
 go_wp2_with fail
 refine zf (zcN (a:=[51]) (b:=[52])) ?_
 rintro e u6_1 ⟨rfl,x6_1⟩
 go_wp2_with fail
 refine zf (ex_less) ?_
 rintro e u6_2 ⟨rfl,x6_2⟩
 go_upto_region 7 with fail
 have n6:Nxt V5 u6_2:=zaa
 have a6:Nxt w u6_2:=⟨nw.out.trans (n6.out.mono nw.out.size)⟩
 clear nw
 have nw:=a6
 have hg':Glo u6_2:=za
 clear hg a6
 have hg:=hg'
 clear hg'
 have g5b':=Blk.nxt (h:=n6) (k:=g5b)
 have g7b':=Blk.nxt (h:=n6) (k:=g7b)
 have g9b':=Blk.nxt (h:=n6) (k:=g9b)
 clear g5b g7b g9b
 have g5b:=g5b'; have g7b:=g7b'; have g9b:=g9b'
 clear g5b' g7b' g9b'
 clear n6 x6_0 x6_1 x6_2
 as_aux_lemma=>
  go_wp2_with fail
  refine zf (zcN (a:=[49]) (b:=[50])) ?_
  rintro e u7_0 ⟨rfl,x7_0⟩
  go_wp2_with fail
  refine zf (zcN (a:=[50]) (b:=[51])) ?_
  rintro e u7_1 ⟨rfl,x7_1⟩
  go_wp2_with fail
  refine zf (ex_open) ?_
  rintro e u7_2 ⟨rfl,x7_2⟩
  go_upto_region 8 with fail
  have n7:Nxt u6_2 u7_2:=zaa
  have a7:Nxt w u7_2:=⟨nw.out.trans (n7.out.mono nw.out.size)⟩
  clear nw
  have nw:=a7
  have hg':Glo u7_2:=za
  clear hg a7
  have hg:=hg'
  clear hg'
  have g5b':=Blk.nxt (h:=n7) (k:=g5b)
  have g7b':=Blk.nxt (h:=n7) (k:=g7b)
  have g9b':=Blk.nxt (h:=n7) (k:=g9b)
  clear g5b g7b g9b
  have g5b:=g5b'; have g7b:=g7b'; have g9b:=g9b'
  clear g5b' g7b' g9b'
  clear n7 x7_0 x7_1 x7_2
  go_wp2_with fail
  refine zf (ex_root) ?_
  rintro e u8_0 ⟨rfl,x8_0⟩
  go_upto_region 9 with fail
  have n8:Nxt u7_2 (u8_0.alloc (.cells #[str [55,48,55,47,53,48,48],str [50,56,51,47,50,48,48]] 24)):=zaa
  have g15b:Blk (u8_0.alloc (.cells #[str [55,48,55,47,53,48,48],str [50,56,51,47,50,48,48]] 24)) u8_0.heap.size 24 #[str [55,48,55,47,53,48,48],str [50,56,51,47,50,48,48]]:=za
  obtain ⟨g15,hg15⟩:∃ g,u8_0.heap.size=g:=⟨_,rfl⟩
  rw [hg15] at g15b
  rw [hg15]
  clear hg15
  have a8:Nxt w (u8_0.alloc (.cells #[str [55,48,55,47,53,48,48],str [50,56,51,47,50,48,48]] 24)):=⟨nw.out.trans (n8.out.mono nw.out.size)⟩
  clear nw
  generalize (u8_0.alloc (.cells #[str [55,48,55,47,53,48,48],str [50,56,51,47,50,48,48]] 24))=V8 at *
  have nw:=a8
  have hg':Glo V8:=za
  clear hg a8
  have hg:=hg'
  clear hg'
  have g5b':=Blk.nxt (h:=n8) (k:=g5b)
  have g7b':=Blk.nxt (h:=n8) (k:=g7b)
  have g9b':=Blk.nxt (h:=n8) (k:=g9b)
  clear g5b g7b g9b
  have g5b:=g5b'; have g7b:=g7b'; have g9b:=g9b'
  clear g5b' g7b' g9b'
  clear n8 x8_0
  go_wp2_with fail
  refine zf (znr) ?_
  rintro e u9_0 ⟨rfl,x9_0⟩
  go_upto_region 10 with fail
  have n9:Nxt V8 (u9_0.alloc (.cells #[str [49,47,50],str [49,47,50]] 24)):=zaa
  have g17b:Blk (u9_0.alloc (.cells #[str [49,47,50],str [49,47,50]] 24)) u9_0.heap.size 24 #[str [49,47,50],str [49,47,50]]:=za
  obtain ⟨g17,hg17⟩:∃ g,u9_0.heap.size=g:=⟨_,rfl⟩
  rw [hg17] at g17b
  rw [hg17]
  clear hg17
  have a9:Nxt w (u9_0.alloc (.cells #[str [49,47,50],str [49,47,50]] 24)):=⟨nw.out.trans (n9.out.mono nw.out.size)⟩
  clear nw
  generalize (u9_0.alloc (.cells #[str [49,47,50],str [49,47,50]] 24))=V9 at *
  have nw:=a9
  have hg':Glo V9:=za
  clear hg a9
  have hg:=hg'
  clear hg'
  have g5b':=Blk.nxt (h:=n9) (k:=g5b)
  have g7b':=Blk.nxt (h:=n9) (k:=g7b)
  have g9b':=Blk.nxt (h:=n9) (k:=g9b)
  have g15b':=Blk.nxt (h:=n9) (k:=g15b)
  clear g5b g7b g9b g15b
  have g5b:=g5b'; have g7b:=g7b'; have g9b:=g9b'; have g15b:=g15b'
  clear g5b' g7b' g9b' g15b'
  clear n9 x9_0
  go_wp2_with fail
  refine zf (znq) ?_
  rintro e u10_0 ⟨rfl,x10_0⟩
  go_upto_region 11 with fail
  have n10:Nxt V9 (u10_0.alloc (.cells #[str [55,48,55,47,49,48,48,48],str [49,55,55,47,50,53,48]] 24)):=zaa
  have g19b:Blk (u10_0.alloc (.cells #[str [55,48,55,47,49,48,48,48],str [49,55,55,47,50,53,48]] 24)) u10_0.heap.size 24 #[str [55,48,55,47,49,48,48,48],str [49,55,55,47,50,53,48]]:=za
  obtain ⟨g19,hg19⟩:∃ g,u10_0.heap.size=g:=⟨_,rfl⟩
  rw [hg19] at g19b
  rw [hg19]
  clear hg19
  have a10:Nxt w (u10_0.alloc (.cells #[str [55,48,55,47,49,48,48,48],str [49,55,55,47,50,53,48]] 24)):=⟨nw.out.trans (n10.out.mono nw.out.size)⟩
  clear nw
  generalize (u10_0.alloc (.cells #[str [55,48,55,47,49,48,48,48],str [49,55,55,47,50,53,48]] 24))=V10 at *
  have nw:=a10
  have hg':Glo V10:=za
  clear hg a10
  have hg:=hg'
  clear hg'
  have g5b':=Blk.nxt (h:=n10) (k:=g5b)
  have g7b':=Blk.nxt (h:=n10) (k:=g7b)
  have g9b':=Blk.nxt (h:=n10) (k:=g9b)
  have g15b':=Blk.nxt (h:=n10) (k:=g15b)
  have g17b':=Blk.nxt (h:=n10) (k:=g17b)
  clear g5b g7b g9b g15b g17b
  have g5b:=g5b'; have g7b:=g7b'; have g9b:=g9b'; have g15b:=g15b'; have g17b:=g17b'
  clear g5b' g7b' g9b' g15b' g17b'
  clear n10 x10_0
  go_wp2_with fail
  refine zf (znn) ?_
  rintro e u11_0 ⟨rfl,x11_0⟩
  go_upto_region 12 with fail
  have n11:Nxt V10 (u11_0.alloc (.cells #[str [45,49,55,55,47,50,53,48],str [45,55,48,55,47,49,48,48,48]] 24)):=zaa
  have g21b:Blk (u11_0.alloc (.cells #[str [45,49,55,55,47,50,53,48],str [45,55,48,55,47,49,48,48,48]] 24)) u11_0.heap.size 24 #[str [45,49,55,55,47,50,53,48],str [45,55,48,55,47,49,48,48,48]]:=za
  obtain ⟨g21,hg21⟩:∃ g,u11_0.heap.size=g:=⟨_,rfl⟩
  rw [hg21] at g21b
  rw [hg21]
  clear hg21
  have a11:Nxt w (u11_0.alloc (.cells #[str [45,49,55,55,47,50,53,48],str [45,55,48,55,47,49,48,48,48]] 24)):=⟨nw.out.trans (n11.out.mono nw.out.size)⟩
  clear nw
  generalize (u11_0.alloc (.cells #[str [45,49,55,55,47,50,53,48],str [45,55,48,55,47,49,48,48,48]] 24))=V11 at *
  have nw:=a11
  have hg':Glo V11:=za
  clear hg a11
  have hg:=hg'
  clear hg'
  have g5b':=Blk.nxt (h:=n11) (k:=g5b)
  have g7b':=Blk.nxt (h:=n11) (k:=g7b)
  have g9b':=Blk.nxt (h:=n11) (k:=g9b)
  have g15b':=Blk.nxt (h:=n11) (k:=g15b)
  have g17b':=Blk.nxt (h:=n11) (k:=g17b)
  have g19b':=Blk.nxt (h:=n11) (k:=g19b)
  clear g5b g7b g9b g15b g17b g19b
  have g5b:=g5b'; have g7b:=g7b'; have g9b:=g9b'; have g15b:=g15b'; have g17b:=g17b'; have g19b:=g19b'
  clear g5b' g7b' g9b' g15b' g17b' g19b'
  clear n11 x11_0
  go_cut [155] (fun s wx=>s = .bool false/\Blk wx g17 24 #[str [49,47,50],str [49,47,50]]/\Blk wx g19 24 #[str [55,48,55,47,49,48,48,48],str [49,55,55,47,50,53,48]]/\Blk wx g21 24 #[str [45,49,55,55,47,50,53,48],str [45,55,48,55,47,49,48,48,48]]/\Glo wx/\Nxt w wx)
  case first=>
   as_aux_lemma=>
    (refine Code.nameW ?_; intro W hW; have hu:undef=Value.tuple #[]:=rfl; first | (go_region_held3 (fun w'=>ButO W [] w') (exact zab) ((first | (go_at_call 58; refine zf zcN ?_; rintro e v1 ⟨rfl,_⟩)))) | fail)
    all_goals go_wp2_with fail
    all_goals go_meet
    all_goals exact ⟨rfl,za,za,za,za,zaa⟩
  case rest=>
   as_aux_lemma=>
    obtain ⟨rfl,g17b',g19b',g21b',hg',nw'⟩:=hcut
    clear g5b g7b g9b g15b g17b g19b g21b nw hg
    have nw:=nw'; have g17b:=g17b'; have g19b:=g19b'; have g21b:=g21b'
    clear nw' g17b' g19b' g21b'
    have hg:=hg'
    clear hg'
    go_wp2_with fail
    refine zf (zl2) ?_
    rintro e u12_0 ⟨rfl,x12_0⟩
    go_upto_region 15 with fail
    have n12:Nxt wc (u12_0.alloc (.cells #[str [48],str [48],str [49],str [49]] 80)):=zaa
    have g23b:Blk (u12_0.alloc (.cells #[str [48],str [48],str [49],str [49]] 80)) u12_0.heap.size 80 #[str [48],str [48],str [49],str [49]]:=za
    obtain ⟨g23,hg23⟩:∃ g,u12_0.heap.size=g:=⟨_,rfl⟩
    rw [hg23] at g23b
    rw [hg23]
    clear hg23
    have a12:Nxt w (u12_0.alloc (.cells #[str [48],str [48],str [49],str [49]] 80)):=⟨nw.out.trans (n12.out.mono nw.out.size)⟩
    clear nw
    generalize (u12_0.alloc (.cells #[str [48],str [48],str [49],str [49]] 80))=V12 at *
    have nw:=a12
    have hg':Glo V12:=za
    clear hg a12
    have hg:=hg'
    clear hg'
    have g17b':=Blk.nxt (h:=n12) (k:=g17b)
    have g19b':=Blk.nxt (h:=n12) (k:=g19b)
    have g21b':=Blk.nxt (h:=n12) (k:=g21b)
    clear g17b g19b g21b
    have g17b:=g17b'; have g19b:=g19b'; have g21b:=g21b'
    clear g17b' g19b' g21b'
    clear n12 x12_0
    go_wp2_with fail
    refine zf (zc2 (a:=[49]) (b:=[50])) ?_
    rintro e u13_0 ⟨rfl,x13_0⟩
    go_wp2_with fail
    refine zf (zc2 (a:=[51]) (b:=[45,49])) ?_
    rintro e u13_1 ⟨rfl,x13_1⟩
    go_wp2_with fail
    refine zf (zl5) ?_
    rintro e u13_2 ⟨rfl,x13_2⟩
    go_upto_region 16 with fail
    have n13:Nxt V12 (u13_2.alloc (.cells #[str [53],str [53],str [53],str [53]] 80)):=zaa
    have g25b:Blk (u13_2.alloc (.cells #[str [53],str [53],str [53],str [53]] 80)) u13_2.heap.size 80 #[str [53],str [53],str [53],str [53]]:=za
    obtain ⟨g25,hg25⟩:∃ g,u13_2.heap.size=g:=⟨_,rfl⟩
    rw [hg25] at g25b
    rw [hg25]
    clear hg25
    have a13:Nxt w (u13_2.alloc (.cells #[str [53],str [53],str [53],str [53]] 80)):=⟨nw.out.trans (n13.out.mono nw.out.size)⟩
    clear nw
    generalize (u13_2.alloc (.cells #[str [53],str [53],str [53],str [53]] 80))=V13 at *
    have nw:=a13
    have hg':Glo V13:=za
    clear hg a13
    have hg:=hg'
    clear hg'
    have g17b':=Blk.nxt (h:=n13) (k:=g17b)
    have g19b':=Blk.nxt (h:=n13) (k:=g19b)
    have g21b':=Blk.nxt (h:=n13) (k:=g21b)
    have g23b':=Blk.nxt (h:=n13) (k:=g23b)
    clear g17b g19b g21b g23b
    have g17b:=g17b'; have g19b:=g19b'; have g21b:=g21b'; have g23b:=g23b'
    clear g17b' g19b' g21b' g23b'
    clear n13 x13_0 x13_1 x13_2
    go_wp2_with fail
    refine zf (zc2 (a:=[49]) (b:=[50])) ?_
    rintro e u14_0 ⟨rfl,x14_0⟩
    go_wp2_with fail
    refine zf (ex_conj) ?_
    rintro e u14_1 ⟨rfl,x14_1⟩
    go_upto_region 17 with fail
    have n14:Nxt V13 (u14_1.alloc (.cells #[str [49],str [49],str [45,50],str [45,50]] 80)):=zaa
    have g27b:Blk (u14_1.alloc (.cells #[str [49],str [49],str [45,50],str [45,50]] 80)) u14_1.heap.size 80 #[str [49],str [49],str [45,50],str [45,50]]:=za
    obtain ⟨g27,hg27⟩:∃ g,u14_1.heap.size=g:=⟨_,rfl⟩
    rw [hg27] at g27b
    rw [hg27]
    clear hg27
    have a14:Nxt w (u14_1.alloc (.cells #[str [49],str [49],str [45,50],str [45,50]] 80)):=⟨nw.out.trans (n14.out.mono nw.out.size)⟩
    clear nw
    generalize (u14_1.alloc (.cells #[str [49],str [49],str [45,50],str [45,50]] 80))=V14 at *
    have nw:=a14
    have hg':Glo V14:=za
    clear hg a14
    have hg:=hg'
    clear hg'
    have g17b':=Blk.nxt (h:=n14) (k:=g17b)
    have g19b':=Blk.nxt (h:=n14) (k:=g19b)
    have g21b':=Blk.nxt (h:=n14) (k:=g21b)
    have g23b':=Blk.nxt (h:=n14) (k:=g23b)
    have g25b':=Blk.nxt (h:=n14) (k:=g25b)
    clear g17b g19b g21b g23b g25b
    have g17b:=g17b'; have g19b:=g19b'; have g21b:=g21b'; have g23b:=g23b'; have g25b:=g25b'
    clear g17b' g19b' g21b' g23b' g25b'
    clear n14 x14_0 x14_1
    go_wp2_with fail
    refine zf (zc2 (a:=[49]) (b:=[50])) ?_
    rintro e u15_0 ⟨rfl,x15_0⟩
    go_wp2_with fail
    refine zf (ex_norm) ?_
    rintro e u15_1 ⟨rfl,x15_1⟩
    go_upto_region 18 with fail
    have n15:Nxt V14 (u15_1.alloc (.cells #[str [53],str [53]] 24)):=zaa
    have g29b:Blk (u15_1.alloc (.cells #[str [53],str [53]] 24)) u15_1.heap.size 24 #[str [53],str [53]]:=za
    obtain ⟨g29,hg29⟩:∃ g,u15_1.heap.size=g:=⟨_,rfl⟩
    rw [hg29] at g29b
    rw [hg29]
    clear hg29
    have a15:Nxt w (u15_1.alloc (.cells #[str [53],str [53]] 24)):=⟨nw.out.trans (n15.out.mono nw.out.size)⟩
    clear nw
    generalize (u15_1.alloc (.cells #[str [53],str [53]] 24))=V15 at *
    have nw:=a15
    have hg':Glo V15:=za
    clear hg a15
    have hg:=hg'
    clear hg'
    have g17b':=Blk.nxt (h:=n15) (k:=g17b)
    have g19b':=Blk.nxt (h:=n15) (k:=g19b)
    have g21b':=Blk.nxt (h:=n15) (k:=g21b)
    have g23b':=Blk.nxt (h:=n15) (k:=g23b)
    have g25b':=Blk.nxt (h:=n15) (k:=g25b)
    have g27b':=Blk.nxt (h:=n15) (k:=g27b)
    clear g17b g19b g21b g23b g25b g27b
    have g17b:=g17b'; have g19b:=g19b'; have g21b:=g21b'; have g23b:=g23b'; have g25b:=g25b'; have g27b:=g27b'
    clear g17b' g19b' g21b' g23b' g25b' g27b'
    clear n15 x15_0 x15_1
    go_wp2_with fail
    refine zf (zjf mat22 mat22) ?_
    rintro e u16_0 ⟨CM,rfl,hM1,x16_0⟩
    go_upto_region 19 with fail
    have n16:Nxt V15 u16_0:=zaa
    have hM0:MAt u16_0 CM [[[50],[49]],[[52],[51]]]:=hM1
    have a16:Nxt w u16_0:=⟨nw.out.trans (n16.out.mono nw.out.size)⟩
    clear nw
    have nw:=a16
    have hg':Glo u16_0:=za
    clear hg a16
    have hg:=hg'
    clear hg'
    have g17b':=Blk.nxt (h:=n16) (k:=g17b)
    have g19b':=Blk.nxt (h:=n16) (k:=g19b)
    have g21b':=Blk.nxt (h:=n16) (k:=g21b)
    have g23b':=Blk.nxt (h:=n16) (k:=g23b)
    have g25b':=Blk.nxt (h:=n16) (k:=g25b)
    have g27b':=Blk.nxt (h:=n16) (k:=g27b)
    have g29b':=Blk.nxt (h:=n16) (k:=g29b)
    clear g17b g19b g21b g23b g25b g27b g29b
    have g17b:=g17b'; have g19b:=g19b'; have g21b:=g21b'; have g23b:=g23b'; have g25b:=g25b'; have g27b:=g27b'; have g29b:=g29b'
    clear g17b' g19b' g21b' g23b' g25b' g27b' g29b'
    clear n16 x16_0
    have hM:=hM0
    clear hM0
    as_aux_lemma=>
     go_wp2_with fail
     refine zf (znm mat22 sat2) ?_
     rintro e u17_0 ⟨CS,rfl,hS1,x17_0⟩
     go_upto_region 20 with fail
     have n17:Nxt u16_0 u17_0:=zaa
     have hS0:SAt u17_0 CS [[49],[50]]:=hS1
     have a17:Nxt w u17_0:=⟨nw.out.trans (n17.out.mono nw.out.size)⟩
     clear nw
     have nw:=a17
     have hg':Glo u17_0:=za
     clear hg a17
     have hg:=hg'
     clear hg'
     have g17b':=Blk.nxt (h:=n17) (k:=g17b)
     have g19b':=Blk.nxt (h:=n17) (k:=g19b)
     have g21b':=Blk.nxt (h:=n17) (k:=g21b)
     have g23b':=Blk.nxt (h:=n17) (k:=g23b)
     have g25b':=Blk.nxt (h:=n17) (k:=g25b)
     have g27b':=Blk.nxt (h:=n17) (k:=g27b)
     have g29b':=Blk.nxt (h:=n17) (k:=g29b)
     have hM':MAt u17_0 CM [[[50],[49]],[[52],[51]]]:=hM.nxt n17
     clear g17b g19b g21b g23b g25b g27b g29b hM
     have g17b:=g17b'; have g19b:=g19b'; have g21b:=g21b'; have g23b:=g23b'; have g25b:=g25b'; have g27b:=g27b'; have g29b:=g29b'; have hM:=hM'
     clear g17b' g19b' g21b' g23b' g25b' g27b' g29b' hM'
     clear n17 x17_0
     have hS:=hS0
     clear hS0
     go_wp2_with fail
     refine zf (zkE) ?_
     rintro e u18_0 ⟨rfl,x18_0⟩
     go_upto_region 21 with fail
     have n18:Nxt u17_0 u18_0:=zaa
     have a18:Nxt w u18_0:=⟨nw.out.trans (n18.out.mono nw.out.size)⟩
     clear nw
     have nw:=a18
     have hg':Glo u18_0:=za
     clear hg a18
     have hg:=hg'
     clear hg'
     have g17b':=Blk.nxt (h:=n18) (k:=g17b)
     have g19b':=Blk.nxt (h:=n18) (k:=g19b)
     have g21b':=Blk.nxt (h:=n18) (k:=g21b)
     have g23b':=Blk.nxt (h:=n18) (k:=g23b)
     have g25b':=Blk.nxt (h:=n18) (k:=g25b)
     have g27b':=Blk.nxt (h:=n18) (k:=g27b)
     have g29b':=Blk.nxt (h:=n18) (k:=g29b)
     have hM':MAt u18_0 CM [[[50],[49]],[[52],[51]]]:=hM.nxt n18
     have hS':SAt u18_0 CS [[49],[50]]:=hS.nxt n18
     clear g17b g19b g21b g23b g25b g27b g29b hM hS
     have g17b:=g17b'; have g19b:=g19b'; have g21b:=g21b'; have g23b:=g23b'; have g25b:=g25b'; have g27b:=g27b'; have g29b:=g29b'; have hM:=hM'; have hS:=hS'
     clear g17b' g19b' g21b' g23b' g25b' g27b' g29b' hM' hS'
     clear n18 x18_0
     go_wp2_with fail
     refine zf (znp) ?_
     rintro e u19_0 ⟨rfl,x19_0⟩
     go_upto_region 22 with fail
     have n19:Nxt u18_0 u19_0:=zaa
     have a19:Nxt w u19_0:=⟨nw.out.trans (n19.out.mono nw.out.size)⟩
     clear nw
     have nw:=a19
     have hg':Glo u19_0:=za
     clear hg a19
     have hg:=hg'
     clear hg'
     have g17b':=Blk.nxt (h:=n19) (k:=g17b)
     have g19b':=Blk.nxt (h:=n19) (k:=g19b)
     have g21b':=Blk.nxt (h:=n19) (k:=g21b)
     have g23b':=Blk.nxt (h:=n19) (k:=g23b)
     have g25b':=Blk.nxt (h:=n19) (k:=g25b)
     have g27b':=Blk.nxt (h:=n19) (k:=g27b)
     have g29b':=Blk.nxt (h:=n19) (k:=g29b)
     have hM':MAt u19_0 CM [[[50],[49]],[[52],[51]]]:=hM.nxt n19
     have hS':SAt u19_0 CS [[49],[50]]:=hS.nxt n19
     clear g17b g19b g21b g23b g25b g27b g29b hM hS
     have g17b:=g17b'; have g19b:=g19b'; have g21b:=g21b'; have g23b:=g23b'; have g25b:=g25b'; have g27b:=g27b'; have g29b:=g29b'; have hM:=hM'; have hS:=hS'
     clear g17b' g19b' g21b' g23b' g25b' g27b' g29b' hM' hS'
     clear n19 x19_0
     go_wp2_with fail
     refine zf (zeN) ?_
     rintro e u20_0 ⟨rfl,x20_0⟩
     go_upto_region 23 with fail
     have n20:Nxt u19_0 u20_0:=zaa
     have a20:Nxt w u20_0:=⟨nw.out.trans (n20.out.mono nw.out.size)⟩
     clear nw
     have nw:=a20
     have hg':Glo u20_0:=za
     clear hg a20
     have hg:=hg'
     clear hg'
     have g17b':=Blk.nxt (h:=n20) (k:=g17b)
     have g19b':=Blk.nxt (h:=n20) (k:=g19b)
     have g21b':=Blk.nxt (h:=n20) (k:=g21b)
     have g23b':=Blk.nxt (h:=n20) (k:=g23b)
     have g25b':=Blk.nxt (h:=n20) (k:=g25b)
     have g27b':=Blk.nxt (h:=n20) (k:=g27b)
     have g29b':=Blk.nxt (h:=n20) (k:=g29b)
     have hM':MAt u20_0 CM [[[50],[49]],[[52],[51]]]:=hM.nxt n20
     have hS':SAt u20_0 CS [[49],[50]]:=hS.nxt n20
     clear g17b g19b g21b g23b g25b g27b g29b hM hS
     have g17b:=g17b'; have g19b:=g19b'; have g21b:=g21b'; have g23b:=g23b'; have g25b:=g25b'; have g27b:=g27b'; have g29b:=g29b'; have hM:=hM'; have hS:=hS'
     clear g17b' g19b' g21b' g23b' g25b' g27b' g29b' hM' hS'
     clear n20 x20_0
     go_wp2_with fail
     refine zf (zl6 mat23) ?_
     rintro e u21_0 ⟨CK,rfl,hK1,x21_0⟩
     go_upto_region 24 with fail
     have n21:Nxt u20_0 u21_0:=zaa
     have hK0:MAt u21_0 CK [[[49],[48],[45,49,47,51]],[[48],[49],[45,50,47,51]]]:=hK1
     have a21:Nxt w u21_0:=⟨nw.out.trans (n21.out.mono nw.out.size)⟩
     clear nw
     have nw:=a21
     have hg':Glo u21_0:=za
     clear hg a21
     have hg:=hg'
     clear hg'
     have g17b':=Blk.nxt (h:=n21) (k:=g17b)
     have g19b':=Blk.nxt (h:=n21) (k:=g19b)
     have g21b':=Blk.nxt (h:=n21) (k:=g21b)
     have g23b':=Blk.nxt (h:=n21) (k:=g23b)
     have g25b':=Blk.nxt (h:=n21) (k:=g25b)
     have g27b':=Blk.nxt (h:=n21) (k:=g27b)
     have g29b':=Blk.nxt (h:=n21) (k:=g29b)
     have hM':MAt u21_0 CM [[[50],[49]],[[52],[51]]]:=hM.nxt n21
     have hS':SAt u21_0 CS [[49],[50]]:=hS.nxt n21
     clear g17b g19b g21b g23b g25b g27b g29b hM hS
     have g17b:=g17b'; have g19b:=g19b'; have g21b:=g21b'; have g23b:=g23b'; have g25b:=g25b'; have g27b:=g27b'; have g29b:=g29b'; have hM:=hM'; have hS:=hS'
     clear g17b' g19b' g21b' g23b' g25b' g27b' g29b' hM' hS'
     clear n21 x21_0
     have hK:=hK0
     clear hK0
     go_wp2_with fail
     refine zf (ex_rank mat23) ?_
     rintro e u22_0 ⟨rfl,x22_0⟩
     go_upto_region 25 with fail
     have n22:Nxt u21_0 u22_0:=zaa
     have a22:Nxt w u22_0:=⟨nw.out.trans (n22.out.mono nw.out.size)⟩
     clear nw
     have nw:=a22
     have hg':Glo u22_0:=za
     clear hg a22
     have hg:=hg'
     clear hg'
     have g17b':=Blk.nxt (h:=n22) (k:=g17b)
     have g19b':=Blk.nxt (h:=n22) (k:=g19b)
     have g21b':=Blk.nxt (h:=n22) (k:=g21b)
     have g23b':=Blk.nxt (h:=n22) (k:=g23b)
     have g25b':=Blk.nxt (h:=n22) (k:=g25b)
     have g27b':=Blk.nxt (h:=n22) (k:=g27b)
     have g29b':=Blk.nxt (h:=n22) (k:=g29b)
     have hM':MAt u22_0 CM [[[50],[49]],[[52],[51]]]:=hM.nxt n22
     have hS':SAt u22_0 CS [[49],[50]]:=hS.nxt n22
     have hK':MAt u22_0 CK [[[49],[48],[45,49,47,51]],[[48],[49],[45,50,47,51]]]:=hK.nxt n22
     clear g17b g19b g21b g23b g25b g27b g29b hM hS hK
     have g17b:=g17b'; have g19b:=g19b'; have g21b:=g21b'; have g23b:=g23b'; have g25b:=g25b'; have g27b:=g27b'; have g29b:=g29b'; have hM:=hM'; have hS:=hS'; have hK:=hK'
     clear g17b' g19b' g21b' g23b' g25b' g27b' g29b' hM' hS' hK'
     clear n22 x22_0
     go_wp2_with fail
     refine zf (ex_draw) ?_
     rintro e u23_0 ⟨CD,rfl,hD1,x23_0⟩
     go_upto_region 26 with fail
     have n23:Nxt u22_0 u23_0:=zaa
     have hD0:IAt u23_0 CD [0,2,1]:=hD1
     have a23:Nxt w u23_0:=⟨nw.out.trans (n23.out.mono nw.out.size)⟩
     clear nw
     have nw:=a23
     have hg':Glo u23_0:=za
     clear hg a23
     have hg:=hg'
     clear hg'
     have g17b':=Blk.nxt (h:=n23) (k:=g17b)
     have g19b':=Blk.nxt (h:=n23) (k:=g19b)
     have g21b':=Blk.nxt (h:=n23) (k:=g21b)
     have g23b':=Blk.nxt (h:=n23) (k:=g23b)
     have g25b':=Blk.nxt (h:=n23) (k:=g25b)
     have g27b':=Blk.nxt (h:=n23) (k:=g27b)
     have g29b':=Blk.nxt (h:=n23) (k:=g29b)
     have hM':MAt u23_0 CM [[[50],[49]],[[52],[51]]]:=hM.nxt n23
     have hS':SAt u23_0 CS [[49],[50]]:=hS.nxt n23
     have hK':MAt u23_0 CK [[[49],[48],[45,49,47,51]],[[48],[49],[45,50,47,51]]]:=hK.nxt n23
     clear g17b g19b g21b g23b g25b g27b g29b hM hS hK
     have g17b:=g17b'; have g19b:=g19b'; have g21b:=g21b'; have g23b:=g23b'; have g25b:=g25b'; have g27b:=g27b'; have g29b:=g29b'; have hM:=hM'; have hS:=hS'; have hK:=hK'
     clear g17b' g19b' g21b' g23b' g25b' g27b' g29b' hM' hS' hK'
     clear n23 x23_0
     have hD:=hD0
     clear hD0
     go_cut [278] (fun s wx=>s = .bool false/\Blk wx g29 24 #[str [53],str [53]]/\MAt wx CM [[[50],[49]],[[52],[51]]]/\SAt wx CS [[49],[50]]/\MAt wx CK [[[49],[48],[45,49,47,51]],[[48],[49],[45,50,47,51]]]/\IAt wx CD [0,2,1]/\Glo wx/\Nxt w wx)
     case first=>
      as_aux_lemma=>
       (refine Code.nameW ?_; intro W hW; have hu:undef=Value.tuple #[]:=rfl; first | (go_region_held3 (fun w'=>ButO W [] w') (exact zab) ((first | (go_at_call 58; refine zf zcN ?_; rintro e v1 ⟨rfl,_⟩) | (go_at_call 63; refine zf zc2 ?_; rintro e v1 ⟨rfl,_⟩)))) | fail)
       all_goals go_wp2_with fail
       all_goals go_meet
       all_goals exact ⟨rfl,za,hM.nxt zaa,hS.nxt zaa,hK.nxt zaa,hD.nxt zaa,za,zaa⟩
     case rest=>
      as_aux_lemma=>
       obtain ⟨rfl,g29b',hM',hS',hK',hD',hg',nw'⟩:=hcut
       clear g17b g19b g21b g23b g25b g27b g29b hM hS hK hD nw hg
       have nw:=nw'; have g29b:=g29b'; have hM:=hM'; have hS:=hS'; have hK:=hK'; have hD:=hD'
       clear nw' g29b' hM' hS' hK' hD'
       have hg:=hg'
       clear hg'
       go_upto_region 28 with fail
       have HM:=zc hM; have HS:=zc hS; have HK:=zc hK; have HD:=zc hD
       clear hM hS hK hD
       (refine Code.nameW ?_; intro W hW; have hu:undef=Value.tuple #[]:=rfl; first | (go_region_held3 (fun w'=>ButO W [] w') (exact zab) ((first | (go_at_call 58; refine zf zcN ?_; rintro e v1 ⟨rfl,_⟩) | (go_at_call 55; refine zf (zlf (by first | exact HM.out.nxt zaa | exact HK.out.nxt zaa) (by first | exact mat22 | exact mat23) rfl (by decide) (by decide)) ?_; rintro e v1 ⟨rfl,_⟩) | (go_at_call 54; refine zf (zle (HS.out.nxt zaa) sat2 rfl (by decide)) ?_; rintro e v1 ⟨rfl,_⟩) | (go_at_call 69; refine zf (zki (l:=[0,2,1]) (HD.out.nxt zaa) iat3 rfl (by decide)) ?_; rintro e v1 ⟨rfl,_⟩)))) | fail)
       all_goals go_wp2_with fail
       all_goals go_ret
       all_goals exact ⟨rfl,zaa⟩
end Go.Proofs.YtombhkpniddceaaGreatDoor

