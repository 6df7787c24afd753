import Derived.Test.YtombhkpniddceaaGreatDoorCardBase
import Derived.Test.YtombhkpniddceaaGreatDoorOSpans
import Derived.SevenTiedAt
import Derived.Test.YtombhkpniddceaaGreatDoorCards
import Derived.Test.YtombhkpniddceaaGreatDoorTie
import Derived.Test.YtombhkpniddceaaGreatDoorM00
import Derived.OpenShut
import Derived.ProofKit
set_option maxRecDepth 100000
set_option linter.all false
namespace Go.Proofs.YtombhkpniddceaaGreatDoor
open Go.ChangeAt Go.ChangeMaps Go.ChangeShapes Go.RowKit Go.WideShapes
section
theorem zgq:Tryz.prog.cellsOf 22=1:=by kernel_rfl
theorem zf5:Tryz.prog.cellsOf 24=2:=by kernel_rfl
set_option maxRecDepth 100000
section
variable {H:Type} {enc:TypeId × Value -> H} {W:World} {base fuel:Nat} {sp:Nat -> Bool} {held:Bool}
theorem zls {cs:List Value} {x:DataW H × List MemPlace} (h:DataW.trod enc Tryz.prog W base sp held fuel 24 cs=some x):
  ∃ s t:ByteArray,cs=[.string s,.string t]/\x=(.agg [.lit (.string s.data.toList),.lit (.string t.data.toList)],[])/\s.size <= maxLen/\t.size <= maxLen:=by
 obtain ⟨y0,y1,n,rfl,hl,h0,h1⟩:=trod_struct2 Tryz.underlying24 h
 rw [zf5] at hl
 match cs,hl with
 | [c0,c1],_=>
  obtain ⟨s,e0,rfl,w0⟩:=DataW.trod_string Tryz.underlying22 h0
  obtain ⟨t,e1,rfl,w1⟩:=DataW.trod_string Tryz.underlying22 h1
  simp [zgq] at e0 e1
  subst e0; subst e1
  exact ⟨s,t,rfl,rfl,w0,w1⟩
theorem zlb {s t:ByteArray} (n:Nat) (w0:s.size <= maxLen) (w1:t.size <= maxLen):DataW.trod enc Tryz.prog W base sp held (n+2) 24 [.string s,.string t]=some (.agg [.lit (.string s.data.toList),.lit (.string t.data.toList)],[]):=
 trod_struct2_mk (y0:=(.lit (.string s.data.toList),[])) (y1:=(.lit (.string t.data.toList),[])) Tryz.underlying24 (by rw [zf5]; rfl)
  (by
   show DataW.trod enc Tryz.prog W base sp held (n+1) 22 (([.string s,.string t].drop 0).take (Tryz.prog.cellsOf 22))=_
   rw [zgq]
   simp [DataW.trod,Tryz.underlying22,w0])
  (by
   show DataW.trod enc Tryz.prog W base sp held (n+1) 22 (([.string s,.string t].drop 1).take (Tryz.prog.cellsOf 22))=_
   rw [zgq]
   simp [DataW.trod,Tryz.underlying22,w1])
end
end
section
set_option maxRecDepth 100000
section
variable {H:Type} {enc:TypeId × Value -> H} {W:World} {base fuel:Nat} {sp:Nat -> Bool} {held:Bool}
theorem zpG {r:Reach} {b0:Nat} {v:Value} {d:DataW H} {ps:List MemPlace} (hval:Value.okWide Tryz.prog W r b0 24 v) (hd:DataW.Trod enc Tryz.prog W base sp held 24 v d ps):
  ∃ a b:ByteArray,v = .agg #[.string a,.string b]/\d = .agg [.lit (.string a.data.toList),.lit (.string b.data.toList)]/\ps=[]/\a.size <= maxLen/\b.size <= maxLen:=by
 obtain ⟨cs,rfl,hn⟩:=okWide_struct Tryz.underlying24 hval
 obtain ⟨fuel,hf⟩:=hd
 obtain ⟨a,b,e0,hx,w0,w1⟩:=zls hf
 obtain ⟨l⟩:=cs
 have e0:l=[.string a,.string b]:=e0
 subst e0
 simp at hx
 exact ⟨a,b,rfl,hx.1,hx.2,w0,w1⟩
theorem zpB {a b:ByteArray} (w0:a.size <= maxLen) (w1:b.size <= maxLen):DataW.Trod enc Tryz.prog W base sp held 24 (.agg #[.string a,.string b]) (.agg [.lit (.string a.data.toList),.lit (.string b.data.toList)]) []:=
 ⟨0+2,zlb 0 w0 w1⟩
end
end
end Go.Proofs.YtombhkpniddceaaGreatDoor
namespace Go.Proofs.YtombhkpniddceaaGreatDoor
open Go.ChangeAt Go.ChangeMaps Go.ChangeShapes Go.RowKit Go.WideShapes
theorem zqC (HA:zgf) (os:Os) (started:os.Started) (H:Type) (enc:TypeId × Value -> H):
  ReturnsInHanded {} Tryz.checked os 3 .any (fun w args=>(Rows.numberSpansSpec.pre enc Tryz.prog Tryz.f3 [] false w args/\laidMetH Tryz.prog laid3 w)/\sizedMet enc Tryz.prog Tryz.f3 (OpenSpec.ofChange Rows.numberSpansSpec) false w args)
   (Rows.numberSpansSpec.post enc Tryz.prog Tryz.f3 false true false false):=by
 refine returnsInHanded_of_change_and (C:=Tryz.checked) (X:=fun w _=>laidMetH Tryz.prog laid3 w) (fun _ _ _ hh h=>h.of_heap hh) own started (by kernel_rfl) Tryz.func3
  (ChangeSpec.witness_shaped (enc:=enc) (C:=Tryz.checked) (os:=os) (X:=fun w _=>laidMetH Tryz.prog laid3 w) false (World.doorLaid Tryz.prog 400 os) #[.agg #[.string ⟨#[]⟩,.string ⟨#[]⟩],.agg #[.string ⟨#[]⟩,.string ⟨#[]⟩],.int .i64 0] 8 rfl (World.shaped_of_RefB (by kernel_rfl) (by kernel_rfl)) (by kernel_rfl) (by kernel_rfl) (by kernel_rfl) (znu os _)) ?_
 intro W base args ds gs before hval0 hW _ _ hL _
 have hval:∀ (j:Nat) t v,Tryz.f3.params[j]?=some t -> args[j]?=some v -> Value.okWide Tryz.prog W .any base t v:=hval0
 have hW':=hW
 obtain ⟨p,q,hA0,hV,rfl,hfz,hnd⟩:=hW
 have hA:DataW.TrodAll enc Tryz.prog W 0 (fun _=>true) true Tryz.f3.params.toList args.toList ds p:=hA0
 rw [Tryz.params3] at hA hval
 obtain ⟨v0,v1,v2,d0,d1,d2,p0,p1,p2,rfl,rfl,rfl,h0,h1,h2⟩:=trodAll_three hA
 obtain ⟨rfl,rfl⟩:=trodVars_none hV
 obtain ⟨s1,s2,rfl,rfl,rfl,u1,u2⟩:=zpG (hval 0 24 v0 rfl rfl) h0
 obtain ⟨q1,q2,rfl,rfl,rfl,u3,u4⟩:=zpG (hval 1 24 v1 rfl rfl) h1
 obtain ⟨a2,rfl,rfl,rfl,w2⟩:=open_int Tryz.underlying3 (hval 2 3 v2 rfl rfl) h2
 have hg:Glo W:=zjb hL
 clear hA0 hval0
 simp only [List.append_nil] at hW'
 refine (numberSpans (zc HA) s1.data.toList s2.data.toList q1.data.toList q2.data.toList a2 W).mono fun e W' ⟨he,hb⟩=>?_
 subst he
 exact ⟨_,rfl,_,_,_,[],[],[],hW',trodAll_mk1 (shut_bool Tryz.underlying4 _),trodAll_mk3 (zpB u1 u2) (zpB u3 u4) (shut_int Tryz.underlying3 w2),rfl,hb.frame _,fun h=>by cases h⟩
theorem jf1:(Rows.numberSpansRow.wf (OpenSpec.ofChange Rows.numberSpansSpec))=true:=by kernel_rfl
theorem jf2:(laidOutB Tryz.pinned.checked.prog)=true:=by kernel_rfl
theorem jf3:(mapsRowed Tryz.pinned.checked.prog)=true:=by kernel_rfl
theorem jf4:(Tryz.f3.params.all (Tryz.pinned.checked.prog.readableRec ·))=true:=by kernel_rfl
theorem jf5:(namedTie Tryz.pinned.checked.prog Rows.numberSpansRow.named Rows.numberSpansSpec.vars)=true:=by kernel_rfl
theorem jf6:((Rows.numberSpansRow.stops == []))=true:=by kernel_rfl
theorem jf7:((Tryz.pinned.checked.prog.stops == []))=true:=by kernel_rfl
theorem jf8:((Rows.numberSpansRow.knobs == []))=true:=by kernel_rfl
theorem jf9:((Tryz.pinned.checked.prog.stopKnobs == []))=true:=by kernel_rfl
theorem jf10:((Rows.numberSpansRow.inPlace == Tryz.pinned.checked.prog.inPlace 3))=true:=by kernel_rfl
theorem jf11:((Rows.numberSpansRow.unfollowed == Tryz.pinned.checked.prog.unfollowed 3))=true:=by kernel_rfl
theorem jf12:((Rows.numberSpansRow.recurses == Tryz.pinned.checked.prog.recurses 3))=true:=by kernel_rfl
theorem jf13:((Rows.numberSpansRow.named == Tryz.pinned.checked.prog.varsNamed 3))=true:=by kernel_rfl
theorem jf14:((Rows.numberSpansRow.maps == (Tryz.f3.params.toList ++ Rows.numberSpansSpec.plain.varTypes Tryz.pinned.checked.prog).any (Tryz.pinned.checked.prog.mapsRec ·)))=true:=by kernel_rfl
theorem jf15:((Rows.numberSpansRow.ifaces == (Tryz.f3.params.toList ++ Rows.numberSpansSpec.plain.varTypes Tryz.pinned.checked.prog).any (Tryz.pinned.checked.prog.ifacesRec ·)))=true:=by kernel_rfl
theorem jf16:((Rows.numberSpansRow.mapsOut == Tryz.pinned.checked.prog.mapsAmong Tryz.f3.resultTypes.toList))=true:=by kernel_rfl
theorem jf17:((Rows.numberSpansRow.loops == (Tryz.f3.params.toList ++ Rows.numberSpansSpec.plain.varTypes Tryz.pinned.checked.prog).any (Tryz.pinned.checked.prog.loopsFrom ·)))=true:=by kernel_rfl
theorem jf18:((Rows.numberSpansRow.wideKeys == (Tryz.f3.params.toList ++ Rows.numberSpansSpec.plain.varTypes Tryz.pinned.checked.prog ++ Tryz.f3.resultTypes.toList).any (Tryz.pinned.checked.prog.wideKeysFrom ·)))=true:=by kernel_rfl
theorem jf19:(Rows.numberSpansSpec.vars.all (Tryz.pinned.checked.prog.varReadable ·))=true:=by kernel_rfl
theorem jf20:(Tryz.f3.resultTypes.all (fun t=>Tryz.pinned.checked.prog.readableRec t && decide (t < Tryz.pinned.checked.prog.types.size)))=true:=by kernel_rfl
theorem jf21:((Rows.numberSpansRow.ifacesOut == Tryz.f3.resultTypes.toList.any (Tryz.pinned.checked.prog.ifacesRec ·)))=true:=by kernel_rfl
theorem jf22:((Rows.numberSpansRow.loopsOut == Tryz.f3.resultTypes.toList.any (Tryz.pinned.checked.prog.loopsFrom ·)))=true:=by kernel_rfl
theorem jf23:((Rows.numberSpansRow.plainKeys == Tryz.pinned.checked.prog.plainKeys))=true:=by kernel_rfl
theorem jf24:(Rows.numberSpansRow.shortTexts.isNone)=true:=by kernel_rfl
theorem jf25:(Tryz.pinned.checked.prog.stopsHeard)=true:=by kernel_rfl
theorem jf26:(Tryz.pinned.checked.prog.mayEnter)=true:=by kernel_rfl
theorem jf27:((Rows.numberSpansRow.lifted == Tryz.pinned.checked.prog.liftsFinal))=true:=by kernel_rfl
theorem jf28:((Tryz.pinned.checked.prog.make == some Rows.numberSpansRow.make))=true:=by kernel_rfl
theorem jf30:((Rows.numberSpansRow.pinned == Rows.numberSpansRow.pinnedBy))=true:=by kernel_rfl
theorem jf31:((Rows.numberSpansRow.veiled == (Tryz.f3.params.toList ++ Rows.numberSpansSpec.plain.varTypes Tryz.pinned.checked.prog ++ Tryz.f3.resultTypes.toList).any (Tryz.pinned.checked.prog.veiledRec ·)))=true:=by kernel_rfl
theorem jf32:(Rows.numberSpansRow.veiledFits Tryz.pinned.checked.prog Tryz.f3.params.toList (Tryz.f3.params.toList ++ Rows.numberSpansSpec.plain.varTypes Tryz.pinned.checked.prog ++ Tryz.f3.resultTypes.toList))=true:=by kernel_rfl
theorem jfAll:joinedFacts Tryz.pinned.checked.prog 3 Tryz.f3 Rows.numberSpansSpec Rows.numberSpansRow=true:=by
 unfold joinedFacts
 simp only [Bool.and_eq_true]
 exact ⟨⟨⟨⟨⟨⟨⟨⟨⟨⟨⟨⟨⟨⟨⟨⟨⟨⟨⟨⟨⟨⟨⟨⟨⟨⟨⟨⟨⟨⟨⟨jf1,jf2⟩,jf3⟩,jf4⟩,jf5⟩,jf6⟩,jf7⟩,jf8⟩,jf9⟩,jf10⟩,jf11⟩,jf12⟩,jf13⟩,jf14⟩,jf15⟩,jf16⟩,jf17⟩,jf18⟩,jf19⟩,jf20⟩,jf21⟩,jf22⟩,jf23⟩,jf24⟩,jf25⟩,jf26⟩,jf27⟩,jf28⟩,(by kernel_rfl)⟩,jf30⟩,jf31⟩,jf32⟩
theorem zqx (HA:zgf):Rows.NumberSpansSaid:=
 OpenClaim.holds_of_wide 3 Tryz.f3 rfl rfl rfl rfl rfl rfl rfl ⟨rfl,rfl,rfl,rfl,rfl⟩ rfl rfl rfl rfl rfl (by kernel_rfl) Tryz.func3 jfAll
  (of_decide_eq_true (by kernel_rfl)) (by unfold Func.isWrapper; first | (rw [if_pos (by decide +kernel)]; kernel_rfl) | (rw [if_neg (by decide +kernel)]; exact ⟨rfl,rfl⟩))
  (fun os started H enc _=>zqC HA os started H enc)
end Go.Proofs.YtombhkpniddceaaGreatDoor
set_option linter.all false
namespace Go.Proofs.YtombhkpniddceaaGreatDoor
open Go.ChangeAt Go.ChangeMaps Go.ChangeShapes Go.RowKit Go.WideShapes
theorem spansA (HA:zgf):Rows.NumberSpansCardSaid:=
 Claim7.holds_tied_plain_at .later [] [.data,.data,.data] true Rows.numberSpansCard.stood.harness false
  (zqx HA) (fun _ h=>by cases h) (by kernel_rfl) (fun _ h=>by cases h) numberSpans_row_tie rfl ⟨rfl,rfl⟩ (by kernel_rfl) rfl
  (fun f fn hf hfn => by
   obtain rfl:f=3:=zl ((show Tryz.prog.funcNamed "lenslet/lensletlaw01.NumberSpans" = some 3 by kernel_rfl).symm.trans hf) |>.symm
   obtain rfl:fn=Tryz.f3:=(zl (Tryz.func3.symm.trans hfn)).symm
   exact ⟨by kernel_rfl,fun j t ht=>by
    rw [Tryz.params3] at ht
    have hm:t ∈ [24,24,3]:=by simpa using Array.mem_of_getElem? ht
    have hall:([24,24,3].all fun u => !Tryz.prog.wantsStandIn u)=true:=by kernel_rfl
    exact (show Tryz.prog.wantsStandIn t=false by simpa using List.all_eq_true.1 hall t hm)⟩)
  (by kernel_rfl)
end Go.Proofs.YtombhkpniddceaaGreatDoor
