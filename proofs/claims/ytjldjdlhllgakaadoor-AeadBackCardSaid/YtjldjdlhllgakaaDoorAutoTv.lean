/- What a region that draws and stores may hold (cut from BaseN by prune.py). -/
import Derived.Test.YtjldjdlhllgakaaDoorBaseN
namespace Go.Proofs.YtjldjdlhllgakaaDoor.Auto
open Go Go.RowKit
open Go.Proofs.YtjldjdlhllgakaaDoor.Rely
set_option linter.unusedVariables false
section
variable {P : Program} {Rd : World → Prop} {w0 : World} {base N : Nat} {L : Env} {U : List Nat} {F : List Kn → Prop} {o : Oper} {os : List Oper} {s : Src} {ss : List Src} {C : List Kn}
theorem t_skip (hu : U.contains C.length = false) (hs : seen C o s = true) (hg : gOk s.guard (get (envS N L (C.map Kn.val) s.reads)) = false) (hd : o.dst.isNone = false)
    (hk : stepsT P Rd w0 base N L U F os ss (C ++ [.is undef])) : stepsT P Rd w0 base N L U F (o :: os) (s :: ss) C :=
  ⟨.is undef, fun _ => rfl, (fun _ => by
    rw [if_neg (by rw [hu]; decide)]
    intro ρ W hR hh
    rw [seen_guard hs hh]
    exact guarded_neg hg rfl), hk⟩
theorem t_val (v : Value) (hs : seen C o s = true) (hg : gOk s.guard (get (envS N L (C.map Kn.val) s.reads)) = true) (hd : o.dst.isNone = false)
    (h : ∀ W, (execOp (Rely.look (get (envS N L (C.map Kn.val) s.reads))) o).run P W = .ok (.value v) W)
    (hk : stepsT P Rd w0 base N L U F os ss (C ++ [.is v])) : stepsT P Rd w0 base N L U F (o :: os) (s :: ss) C :=
  ⟨.is v, (fun hn => by rw [hd] at hn; cases hn), (fun _ => by
    split
    · exact ⟨hs, v, rfl, fun W _ => guarded_pos hg (h W)⟩
    · intro ρ W hR hh
      rw [seen_guard hs hh]
      refine guarded_pos hg ?_
      unfold relyAt
      rw [seen_look hs hh, h W]
      exact ⟨Ext.refl _, rfl⟩), hk⟩
theorem t_call (v : Value) (f : FuncId) (args : Array Value) (hu : U.contains C.length = false) (hs : seen C o s = true) (hg : gOk s.guard (get (envS N L (C.map Kn.val) s.reads)) = true) (hd : o.dst.isNone = false)
    (h : ∀ W, (execOp (Rely.look (get (envS N L (C.map Kn.val) s.reads))) o).run P W = .ok (.enter f args) W) (hc : ∀ W, Ext w0 W → Calls P f args W (Ret W v))
    (hk : stepsT P Rd w0 base N L U F os ss (C ++ [.is v])) : stepsT P Rd w0 base N L U F (o :: os) (s :: ss) C :=
  t_op (.is v) hu hs hg hd (fun W hR => by
    rw [h]
    exact ⟨Ext.refl _, (hc W hR).mono fun _ _ h => h.const⟩) hk
theorem t_new (cs : Array Value) (T : TypeId) (hu : U.contains C.length = false) (hs : seen C o s = true) (hb : base ≤ w0.heap.size) (hg : gOk s.guard (get (envS N L (C.map Kn.val) s.reads)) = true) (hd : o.dst.isNone = false)
    (h : ∀ W, (execOp (Rely.look (get (envS N L (C.map Kn.val) s.reads))) o).run P W = .ok (.value (.pointer (some ⟨W.heap.size, 0, none⟩))) (W.alloc (.cells cs T)))
    (hk : stepsT P Rd w0 base N L U F os ss (C ++ [.new cs T])) : stepsT P Rd w0 base N L U F (o :: os) (s :: ss) C :=
  t_op (.new cs T) hu hs hg hd (fun W hR => by
    rw [h]
    refine ⟨ext_alloc _ _, _, rfl, ?_, heap_alloc_new _ _⟩
    have := hR.size
    omega) hk
end
end Go.Proofs.YtjldjdlhllgakaaDoor.Auto
