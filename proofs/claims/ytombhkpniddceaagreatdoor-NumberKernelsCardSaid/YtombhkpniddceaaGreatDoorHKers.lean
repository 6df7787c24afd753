import Derived.Test.YtombhkpniddceaaGreatDoorCardBase
import Derived.Deep.Strs
import Derived.Test.YtombhkpniddceaaGreatDoorOKers
import Derived.SevenTiedAt
import Derived.Test.YtombhkpniddceaaGreatDoorCards
import Derived.Test.YtombhkpniddceaaGreatDoorTie
set_option maxRecDepth 100000
set_option linter.all false
namespace Go.Proofs.YtombhkpniddceaaGreatDoor
open Go.ChangeAt Go.ChangeShapes Go.RowKit Go.WideShapes
section
open Go.Deep
theorem zgq:Tryz.prog.cellsOf 22=1:=by kernel_rfl
theorem zsz:Tryz.prog.cellsOf 59=1:=by kernel_rfl
theorem zsu:laidOutB Tryz.prog=true:=by kernel_rfl
section
variable {H:Type} {enc:TypeId × Value -> H} {W:World} {fuel:Nat} {A:Option Addr} {n c:Nat} {held:Bool} {x:DataW H × List MemPlace}
theorem zrP (h:DataW.trod enc Tryz.prog W 0 (fun _=>true) held fuel 59 [.slice A n c]=some x):∃ xs:List (List UInt8),xs.length=n/\n < 2 ^ 63/\SAt W A xs/\∀ y ∈ xs,y.length < 2 ^ 63:=by
 rcases open_strs Tryz.underlying59 Tryz.underlying22 zgq h with ⟨hc,_⟩ | ⟨a,len,cap,m,Sx,hcs,_,hl,hm,hmm,_,hx⟩
 ·injection hc with hc _
  injection hc with h1 h2 h3
  exact ⟨[],h2.symm,by rw [h2]; decide,fun i y hy=>by simp at hy,fun y hy=>by simp at hy⟩
 ·injection hcs with hcs _
  injection hcs with h1 h2 h3
  subst h1; subst h2; subst h3
  simp only [if_true] at hmm
  have hm':n <= 9223372036854775807:=zo hl hm
  refine ⟨(List.range n).map fun i=>(Sx i).data.toList,by simp,by omega,fun i y hy=>?_,fun y hy=>?_⟩
  ·rw [List.getElem?_map] at hy
   rcases Nat.lt_or_ge i n with hi | hi
   ·rw [List.getElem?_range hi] at hy
    obtain rfl:=zl hy
    exact ⟨a,rfl,(hx i (by omega)).1⟩
   ·rw [List.getElem?_eq_none (by simpa using hi)] at hy; cases hy
  ·obtain ⟨i, hi, rfl⟩ := List.mem_map.1 hy
   have hi:=List.mem_range.1 hi
   have h4:(Sx i).size <= 9223372036854775807:=(hx i (by omega)).2
   have h5:(Sx i).data.toList.length=(Sx i).size:=by simp
   omega
theorem zsE (h:DataW.trod enc Tryz.prog W 0 (fun _=>true) held fuel 49 [.slice A n c]=some x):∃ rows:List (List (List UInt8)),rows.length=n/\n < 2 ^ 63/\MAt W A rows/\(∀ r ∈ rows,r.length < 2 ^ 63)/\∀ r ∈ rows,∀ y ∈ r,y.length < 2 ^ 63:=by
 rcases open_slice1 Tryz.underlying49 zsz h with ⟨hc,_⟩ | ⟨a,len,cap,m,k,V,D,Pl,hcs,_,hl,hm,hmm,_,hx⟩
 ·injection hc with hc _
  injection hc with h1 h2 h3
  exact ⟨[],h2.symm,by rw [h2]; decide,fun i y hy=>by simp at hy,fun y hy=>by simp at hy,fun y hy=>by simp at hy⟩
 ·injection hcs with hcs _
  injection hcs with h1 h2 h3
  subst h1; subst h2; subst h3
  simp only [if_true] at hmm
  have hm':n <= 9223372036854775807:=zo hl hm
  have each:∀ i,i < n -> ∃ y:Option Addr × Nat × Nat × List (List UInt8),V i = .slice y.1 y.2.1 y.2.2.1/\y.2.2.2.length=y.2.1/\y.2.1 < 2 ^ 63/\SAt W y.1 y.2.2.2/\∀ z ∈ y.2.2.2,z.length < 2 ^ 63:=fun i hi=>by
   have h4:=(hx i (by omega)).2
   rcases open_strs Tryz.underlying59 Tryz.underlying22 zgq h4 with ⟨hc,_⟩ | ⟨a',len',cap',m',Sx,hcs,_⟩
   ·injection hc with hc _
    rw [hc] at h4
    obtain ⟨xs,e1,e2,e3,e4⟩:=zrP h4
    exact ⟨(none,0,0,xs),hc,e1,e2,e3,e4⟩
   ·injection hcs with hc _
    rw [hc] at h4
    obtain ⟨xs,e1,e2,e3,e4⟩:=zrP h4
    exact ⟨(some a',len',cap',xs),hc,e1,e2,e3,e4⟩
  obtain ⟨Y,hY⟩:=choose_lt each
  refine ⟨(List.range n).map fun i=>(Y i).2.2.2,by simp,by omega,fun i r hr=>?_,fun r hr=>?_,fun r hr z hz=>?_⟩
  ·rw [List.getElem?_map] at hr
   rcases Nat.lt_or_ge i n with hi | hi
   ·rw [List.getElem?_range hi] at hr
    obtain rfl:=zl hr
    obtain ⟨e1,e2,e3,e4,_⟩:=hY i hi
    exact ⟨a,(Y i).1,(Y i).2.1,(Y i).2.2.1,rfl,by rw [(hx i (by omega)).1,e1],e2,e4⟩
   ·rw [List.getElem?_eq_none (by simpa using hi)] at hr; cases hr
  ·obtain ⟨i, hi, rfl⟩ := List.mem_map.1 hr
   have:=hY i (List.mem_range.1 hi)
   rw [this.2.1]; exact this.2.2.1
  ·obtain ⟨i, hi, rfl⟩ := List.mem_map.1 hr
   exact (hY i (List.mem_range.1 hi)).2.2.2.2 z hz
end
end
section
open Go.ChangeMaps
theorem zsj (HA:zgf) (os:Os) (started:os.Started) (H:Type) (enc:TypeId × Value -> H):
  ReturnsInHanded {} Tryz.checked os 6 .any (fun w args=>(Rows.numberKernelsSpec.pre enc Tryz.prog Tryz.f6 [] false w args/\laidMetH Tryz.prog laid3 w)/\sizedMet enc Tryz.prog Tryz.f6 (OpenSpec.ofChange Rows.numberKernelsSpec) false w args)
   (Rows.numberKernelsSpec.post enc Tryz.prog Tryz.f6 false true false false):=by
 refine returnsInHanded_of_change_and (C:=Tryz.checked) (X:=fun w _=>laidMetH Tryz.prog laid3 w) (fun _ _ _ hh h=>h.of_heap hh) own started (by kernel_rfl) Tryz.func6
  (ChangeSpec.witness_shaped (enc:=enc) (C:=Tryz.checked) (os:=os) (X:=fun w _=>laidMetH Tryz.prog laid3 w) false (World.doorLaid Tryz.prog 400 os) #[.slice none 0 0,.slice none 0 0] 8 rfl (World.shaped_of_RefB (by kernel_rfl) (by kernel_rfl)) (by kernel_rfl) (by kernel_rfl) (by kernel_rfl) (znu os _)) ?_
 intro W base args ds gs before hval0 hW _ _ hL _
 have hval:∀ (j:Nat) t v,Tryz.f6.params[j]?=some t -> args[j]?=some v -> Value.okWide Tryz.prog W .any base t v:=hval0
 have hW':=hW
 obtain ⟨p,q,hA0,hV,rfl,hfz,hnd⟩:=hW
 have hW:=hW'
 have hA:DataW.TrodAll enc Tryz.prog W 0 (fun _=>true) true Tryz.f6.params.toList args.toList ds p:=hA0
 rw [Tryz.params6] at hA hval
 obtain ⟨v0,v1,d0,d1,p0,p1,rfl,rfl,rfl,h0,h1⟩:=trodAll_two hA
 obtain ⟨rfl,rfl⟩:=trodVars_none hV
 clear hA0 hval0
 simp only [List.append_nil] at hW hW'
 obtain ⟨A0,n0,c0,rfl⟩:=okWide_slice Tryz.underlying49 (hval 0 49 v0 rfl rfl)
 have h0k:=h0
 obtain ⟨f0,hf0⟩:=h0
 obtain ⟨r0,ln0,hn0,hm0,hr0,ht0⟩:=zsE (A:=A0) (n:=n0) (c:=c0) hf0
 have hlt0:∀ x ∈ p0,x.block < W.heap.size:=fun x hx=>by
  have:=hW.lt x (by simp [hx])
  simpa using this
 obtain ⟨A1,n1,c1,rfl⟩:=okWide_slice Tryz.underlying59 (hval 1 59 v1 rfl rfl)
 have h1k:=h1
 obtain ⟨f1,hf1⟩:=h1
 obtain ⟨r1,ln1,hn1,hm1,ht1⟩:=zrP (A:=A1) (n:=n1) (c:=c1) hf1
 have hlt1:∀ x ∈ p1,x.block < W.heap.size:=fun x hx=>by
  have:=hW.lt x (by simp [hx])
  simpa using this
 have hg:Glo W:=zjb hL
 refine (numberKernels (c:=c0) (e:=c1) (zc HA) hm0 hm1 ln0 ln1 hn0 hn1 hr0 ht0).mono fun e W' ⟨he,hb⟩=>?_
 subst he
 exact ⟨_,rfl,_,_,_,[],_,[],hW',trodAll_mk1 (shut_bool Tryz.underlying4 _),trodAll_mk2 (Below.trod zsu (by kernel_rfl) (of_decide_eq_true (by kernel_rfl)) h0k hb hlt0) (Below.trod zsu (by kernel_rfl) (of_decide_eq_true (by kernel_rfl)) h1k hb hlt1),rfl,hb.frame _,fun h=>by cases h⟩
end
section
open Go.ChangeMaps
theorem jf1:(Rows.numberKernelsRow.wf (OpenSpec.ofChange Rows.numberKernelsSpec))=true:=by kernel_rfl
theorem jf2:(laidOutB Tryz.pinned.checked.prog)=true:=by kernel_rfl
theorem jf3:(mapsRowed Tryz.pinned.checked.prog)=true:=by kernel_rfl
theorem jf4:(Tryz.f6.params.all (Tryz.pinned.checked.prog.readableRec ·))=true:=by kernel_rfl
theorem jf5:(namedTie Tryz.pinned.checked.prog Rows.numberKernelsRow.named Rows.numberKernelsSpec.vars)=true:=by kernel_rfl
theorem jf6:((Rows.numberKernelsRow.stops == []))=true:=by kernel_rfl
theorem jf7:((Tryz.pinned.checked.prog.stops == []))=true:=by kernel_rfl
theorem jf8:((Rows.numberKernelsRow.knobs == []))=true:=by kernel_rfl
theorem jf9:((Tryz.pinned.checked.prog.stopKnobs == []))=true:=by kernel_rfl
theorem jf10:((Rows.numberKernelsRow.inPlace == Tryz.pinned.checked.prog.inPlace 6))=true:=by kernel_rfl
theorem jf11:((Rows.numberKernelsRow.unfollowed == Tryz.pinned.checked.prog.unfollowed 6))=true:=by kernel_rfl
theorem jf12:((Rows.numberKernelsRow.recurses == Tryz.pinned.checked.prog.recurses 6))=true:=by kernel_rfl
theorem jf13:((Rows.numberKernelsRow.named == Tryz.pinned.checked.prog.varsNamed 6))=true:=by kernel_rfl
theorem jf14:((Rows.numberKernelsRow.maps == (Tryz.f6.params.toList ++ Rows.numberKernelsSpec.plain.varTypes Tryz.pinned.checked.prog).any (Tryz.pinned.checked.prog.mapsRec ·)))=true:=by kernel_rfl
theorem jf15:((Rows.numberKernelsRow.ifaces == (Tryz.f6.params.toList ++ Rows.numberKernelsSpec.plain.varTypes Tryz.pinned.checked.prog).any (Tryz.pinned.checked.prog.ifacesRec ·)))=true:=by kernel_rfl
theorem jf16:((Rows.numberKernelsRow.mapsOut == Tryz.pinned.checked.prog.mapsAmong Tryz.f6.resultTypes.toList))=true:=by kernel_rfl
theorem jf17:((Rows.numberKernelsRow.loops == (Tryz.f6.params.toList ++ Rows.numberKernelsSpec.plain.varTypes Tryz.pinned.checked.prog).any (Tryz.pinned.checked.prog.loopsFrom ·)))=true:=by kernel_rfl
theorem jf18:((Rows.numberKernelsRow.wideKeys == (Tryz.f6.params.toList ++ Rows.numberKernelsSpec.plain.varTypes Tryz.pinned.checked.prog ++ Tryz.f6.resultTypes.toList).any (Tryz.pinned.checked.prog.wideKeysFrom ·)))=true:=by kernel_rfl
theorem jf19:(Rows.numberKernelsSpec.vars.all (Tryz.pinned.checked.prog.varReadable ·))=true:=by kernel_rfl
theorem jf20:(Tryz.f6.resultTypes.all (fun t=>Tryz.pinned.checked.prog.readableRec t && decide (t < Tryz.pinned.checked.prog.types.size)))=true:=by kernel_rfl
theorem jf21:((Rows.numberKernelsRow.ifacesOut == Tryz.f6.resultTypes.toList.any (Tryz.pinned.checked.prog.ifacesRec ·)))=true:=by kernel_rfl
theorem jf22:((Rows.numberKernelsRow.loopsOut == Tryz.f6.resultTypes.toList.any (Tryz.pinned.checked.prog.loopsFrom ·)))=true:=by kernel_rfl
theorem jf23:((Rows.numberKernelsRow.plainKeys == Tryz.pinned.checked.prog.plainKeys))=true:=by kernel_rfl
theorem jf24:(Rows.numberKernelsRow.shortTexts.isNone)=true:=by kernel_rfl
theorem jf25:(Tryz.pinned.checked.prog.stopsHeard)=true:=by kernel_rfl
theorem jf26:(Tryz.pinned.checked.prog.mayEnter)=true:=by kernel_rfl
theorem jf27:((Rows.numberKernelsRow.lifted == Tryz.pinned.checked.prog.liftsFinal))=true:=by kernel_rfl
theorem jf28:((Tryz.pinned.checked.prog.make == some Rows.numberKernelsRow.make))=true:=by kernel_rfl
theorem jf30:((Rows.numberKernelsRow.pinned == Rows.numberKernelsRow.pinnedBy))=true:=by kernel_rfl
theorem jf31:((Rows.numberKernelsRow.veiled == (Tryz.f6.params.toList ++ Rows.numberKernelsSpec.plain.varTypes Tryz.pinned.checked.prog ++ Tryz.f6.resultTypes.toList).any (Tryz.pinned.checked.prog.veiledRec ·)))=true:=by kernel_rfl
theorem jf32:(Rows.numberKernelsRow.veiledFits Tryz.pinned.checked.prog Tryz.f6.params.toList (Tryz.f6.params.toList ++ Rows.numberKernelsSpec.plain.varTypes Tryz.pinned.checked.prog ++ Tryz.f6.resultTypes.toList))=true:=by kernel_rfl
theorem jfAll:joinedFacts Tryz.pinned.checked.prog 6 Tryz.f6 Rows.numberKernelsSpec Rows.numberKernelsRow=true:=by
 unfold joinedFacts
 simp only [Bool.and_eq_true]
 exact ⟨⟨⟨⟨⟨⟨⟨⟨⟨⟨⟨⟨⟨⟨⟨⟨⟨⟨⟨⟨⟨⟨⟨⟨⟨⟨⟨⟨⟨⟨⟨jf1,jf2⟩,jf3⟩,jf4⟩,jf5⟩,jf6⟩,jf7⟩,jf8⟩,jf9⟩,jf10⟩,jf11⟩,jf12⟩,jf13⟩,jf14⟩,jf15⟩,jf16⟩,jf17⟩,jf18⟩,jf19⟩,jf20⟩,jf21⟩,jf22⟩,jf23⟩,jf24⟩,jf25⟩,jf26⟩,jf27⟩,jf28⟩,(by kernel_rfl)⟩,jf30⟩,jf31⟩,jf32⟩
theorem zrx (HA:zgf):Rows.NumberKernelsSaid:=
 OpenClaim.holds_of_wide 6 Tryz.f6 rfl rfl rfl rfl rfl rfl rfl ⟨rfl,rfl,rfl,rfl,rfl⟩ rfl rfl rfl rfl rfl (by kernel_rfl) Tryz.func6 jfAll
  (of_decide_eq_true (by kernel_rfl)) (by unfold Func.isWrapper; first | (rw [if_pos (by decide +kernel)]; kernel_rfl) | (rw [if_neg (by decide +kernel)]; exact ⟨rfl,rfl⟩))
  (fun os started H enc _=>zsj HA os started H enc)
end
end Go.Proofs.YtombhkpniddceaaGreatDoor
set_option linter.all false
namespace Go.Proofs.YtombhkpniddceaaGreatDoor
open Go.ChangeAt Go.ChangeMaps Go.ChangeShapes Go.RowKit Go.WideShapes
theorem zqq (HA:zgf):Rows.NumberKernelsCardSaid:=
 Claim7.holds_tied_plain_at .later [] [.data,.data,.data] true Rows.numberKernelsCard.stood.harness false
  (zrx HA) (fun _ h=>by cases h) (by kernel_rfl) (fun _ h=>by cases h) numberKernels_row_tie rfl ⟨rfl,rfl⟩ (by kernel_rfl) rfl
  (fun f fn hf hfn => by
   obtain rfl:f=6:=zl ((show Tryz.prog.funcNamed "lenslet/lensletlaw01.NumberKernels" = some 6 by kernel_rfl).symm.trans hf) |>.symm
   obtain rfl:fn=Tryz.f6:=(zl (Tryz.func6.symm.trans hfn)).symm
   exact ⟨by kernel_rfl,fun j t ht=>by
    rw [Tryz.params6] at ht
    have hm:t ∈ [49,59]:=by simpa using Array.mem_of_getElem? ht
    have hall:([49,59].all fun u => !Tryz.prog.wantsStandIn u)=true:=by kernel_rfl
    exact (show Tryz.prog.wantsStandIn t=false by simpa using List.all_eq_true.1 hall t hm)⟩)
  (by kernel_rfl)
end Go.Proofs.YtombhkpniddceaaGreatDoor
