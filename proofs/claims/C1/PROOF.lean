import PyProof.Rows.All
import Wide.All
import OpenK.AllK
import Wide.FinOn
import Open.SpecLaws
import KE.OsGo
import KE.KLam
import KE.KNestM
import KE.SortKeyHeap
import HandS.ForSpec
import HandS.Dict
import HandS.Comp
import HandS.Iter
import HandS.Walk
import HandS.SetKeys
import HandS.Deep
import HandS.SortInts
import HandS.Lambda
import HandS.SortKw
import HandS.EndTab
import PyKcs5
import PyFlatLaws
import PySem.Challenge.RW_lawdays_s01_answers
set_option Elab.async false
set_option linter.all false
set_option maxRecDepth 100000
set_option maxHeartbeats 0
/-! What holds of every state and of every law that the specification makes. -/
namespace LD
open Kcs5
def WhatOk (i : Nat) : What → Prop
  | .put a l t => (a = [] ∨ isLabel a = true) ∧ isLabel l = true ∧ isText t = true
  | .take l => isLabel l = true
  | .text l t => isLabel l = true ∧ isText t = true
  | .word l o t => isLabel l = true ∧ o ≠ [] ∧ isText o = true ∧ isText t = true
  | .name l t _ => isLabel l = true ∧ isLabel t = true
  | .void n => n < i
structure CmdOk (i : Nat) (c : Command) : Prop where
  law : c.law < 64
  time : goodTime c.from_ c.till = true
  what : WhatOk i c.what
structure Wf (s : Abs) : Prop where
  few : s.acts.length ≤ 512
  days : ∀ d ∈ s.acts, d ≤ 1048576
  rise : s.acts.Pairwise (· ≤ ·)
  many : s.commands.length ≤ 1024
  ok : ∀ i c, s.commands[i]? = some c → CmdOk i c
  known : ∀ c ∈ s.commands, c.known ∈ s.acts
theorem wf_empty : Wf empty := ⟨by simp [empty], by simp [empty], by simp [empty], by simp [empty], by simp [empty], by simp [empty]⟩
theorem wf_more {s : Abs} (h : Wf s) {ok : Bool} {law f u : Nat} {w : What} (hok : ok = true → CmdOk s.commands.length ⟨0, law, f, u, w⟩) : Wf (more s ok law f u w).1 := by
  unfold more
  split
  · exact h
  · rename_i hn
    have hk : ok = true := by cases ok <;> simp_all
    split
    · exact h
    · rename_i day hd
      split
      · exact h
      · rename_i hl
        have hd2 : day ∈ s.acts := List.mem_of_getLast? hd
        refine ⟨h.few, h.days, h.rise, ?_, ?_, ?_⟩
        · simp [COMMANDS] at hl ⊢; omega
        · intro i c hc
          by_cases hi : i < s.commands.length
          · rw [List.getElem?_append_left hi] at hc
            exact h.ok i c hc
          · rw [List.getElem?_append_right (by omega)] at hc
            have hi2 : i - s.commands.length = 0 := by
              have := (List.getElem?_eq_some_iff.mp hc).1
              simp at this
              omega
            rw [hi2] at hc
            simp at hc
            subst hc
            have e : i = s.commands.length := by omega
            subst e
            have q := hok hk
            exact ⟨q.law, q.time, q.what⟩
        · intro c hc
          simp at hc
          rcases hc with hc | hc
          · exact h.known c hc
          · rw [hc]; exact hd2
theorem wf_step {s : Abs} (h : Wf s) (c : Call) : Wf (step s c).1 := by
  cases c with
  | begin_ => exact wf_empty
  | act day =>
    simp only [step]
    split
    · exact h
    · rename_i hn
      split
      · exact h
      · rename_i hl
        simp only [not_or] at hn
        have h1 : day ≤ 1048576 := by have := hn.1; simp [DAYS] at this; omega
        refine ⟨?_, ?_, ?_, h.many, h.ok, ?_⟩
        · simp [ACTS] at hl ⊢; omega
        · intro d hd
          simp at hd
          rcases hd with hd | hd
          · exact h.days d hd
          · omega
        · rw [List.pairwise_append]
          refine ⟨h.rise, by simp, ?_⟩
          intro a ha b hb
          simp at hb
          subst hb
          have h2 := hn.2
          cases e : s.acts.getLast? with
          | none =>
            rw [List.getLast?_eq_none_iff] at e
            rw [e] at ha; cases ha
          | some d =>
            rw [e] at h2
            simp at h2
            obtain ⟨l, hl2⟩ := List.getLast?_eq_some_iff.mp e
            have hr := h.rise
            rw [hl2, List.pairwise_append] at hr
            rw [hl2] at ha
            simp at ha
            rcases ha with ha | ha
            · have := hr.2.2 a ha d (by simp); omega
            · omega
        · intro c hc
          simp
          exact .inl (h.known c hc)
  | put law a l t f u =>
    refine wf_more h fun e => ?_
    simp [LAWS] at e
    exact ⟨of_decide_eq_true e.1.1.1.1, e.2, ⟨by simpa using e.1.1.1.2, e.1.1.2, e.1.2⟩⟩
  | take law l f u =>
    refine wf_more h fun e => ?_
    simp [LAWS] at e
    exact ⟨of_decide_eq_true e.1.1, e.2, e.1.2⟩
  | text law l t f u =>
    refine wf_more h fun e => ?_
    simp [LAWS] at e
    exact ⟨of_decide_eq_true e.1.1.1, e.2, ⟨e.1.1.2, e.1.2⟩⟩
  | word law l o t f u =>
    refine wf_more h fun e => ?_
    simp [LAWS] at e
    exact ⟨of_decide_eq_true e.1.1.1.1.1, e.2, ⟨e.1.1.1.1.2, e.1.1.1.2, e.1.1.2, e.1.2⟩⟩
  | name law l o g f u =>
    refine wf_more h fun e => ?_
    simp [LAWS] at e
    exact ⟨of_decide_eq_true e.1.1.1.1, e.2, ⟨e.1.1.1.2, e.1.1.2⟩⟩
  | void n =>
    refine wf_more h fun e => ?_
    simp at e
    exact ⟨by show 0 < 64; decide, by show goodTime 0 0 = true; decide, e⟩
  | read law l d k =>
    simp only [step]
    repeat' split
    all_goals exact h
  | labels law d k =>
    simp only [step]
    repeat' split
    all_goals exact h
  | origin law l d k =>
    simp only [step]
    repeat' split
    all_goals exact h
  | idle d k =>
    simp only [step]
    repeat' split
    all_goals exact h
  | broken law d k n =>
    simp only [step]
    repeat' split
    all_goals exact h
  | next law l d k =>
    simp only [step]
    repeat' split
    all_goals exact h
end LD

namespace LD
open Kcs5
structure SecOk (x : Section_) : Prop where
  lab : isLabel x.label = true
  len : x.text.length ≤ 4096
  byt : ∀ b ∈ x.text, 32 ≤ b.1 ∧ b.1 ≤ 126
structure LawOk (l : Law) : Prop where
  len : l.length ≤ 64
  sec : ∀ x ∈ l, SecOk x
  nd : (l.map (·.label)).Nodup
theorem isText_len {t : Bytes} (h : isText t = true) : t.length ≤ 1024 := by
  unfold isText at h
  simp [TEXT] at h
  exact of_decide_eq_true h.1
theorem isText_byt {t : Bytes} (h : isText t = true) : ∀ b ∈ t, 32 ≤ b ∧ b ≤ 126 := by
  unfold isText at h
  simp at h
  exact h.2
theorem isLabel_byt {t : Bytes} (h : isLabel t = true) : ∀ b ∈ t, 33 ≤ b ∧ b ≤ 126 := by
  unfold isLabel at h
  simp [labelByte] at h
  intro b hb
  have := h.2 b hb
  exact ⟨this.1.1.1, this.1.1.2⟩
theorem by_len (n : Nat) (t : Bytes) : (by_ n t).length = t.length := by simp [by_]
theorem by_byt {n : Nat} {t : Bytes} {lo : Nat} (h : ∀ b ∈ t, lo ≤ b ∧ b ≤ 126) : ∀ b ∈ by_ n t, lo ≤ b.1 ∧ b.1 ≤ 126 := by
  intro b hb
  simp [by_] at hb
  obtain ⟨a, ha, rfl⟩ := hb
  exact h a ha
theorem sec_by {n : Nat} {l t : Bytes} (hl : isLabel l = true) (ht : isText t = true) : SecOk ⟨l, by_ n t⟩ := by
  refine ⟨hl, ?_, by_byt (isText_byt ht)⟩
  show (by_ n t).length ≤ 4096
  have := isText_len ht
  rw [by_len]; omega
theorem has_false {l : Law} {x : Bytes} (h : has l x = false) : x ∉ l.map (·.label) := by
  intro hm
  simp at hm
  obtain ⟨y, hy, e⟩ := hm
  unfold has at h
  simp at h
  exact h y hy e
theorem has_true {l : Law} {x : Bytes} (h : has l x = true) : x ∈ l.map (·.label) := by
  unfold has at h
  simp at h
  obtain ⟨y, hy, e⟩ := h
  simp
  exact ⟨y, hy, e⟩
/-! behind -/
theorem behind_mem {a : Bytes} {s : Section_} : ∀ {l : Law} {x : Section_}, x ∈ behind a s l → x = s ∨ x ∈ l
  | [], x, h => by cases h
  | y :: l, x, h => by
    unfold behind at h
    split at h
    · simp at h ⊢
      rcases h with h | h | h
      · exact .inr (.inl h)
      · exact .inl h
      · exact .inr (.inr h)
    · simp at h ⊢
      rcases h with h | h
      · exact .inr (.inl h)
      · rcases behind_mem h with h | h
        · exact .inl h
        · exact .inr (.inr h)
theorem behind_len {a : Bytes} {s : Section_} : ∀ {l : Law}, (behind a s l).length ≤ l.length + 1
  | [] => by simp [behind]
  | y :: l => by
    unfold behind
    split
    · simp
    · have := @behind_len a s l
      simp; omega
theorem behind_nd {a : Bytes} {s : Section_} : ∀ {l : Law}, (l.map (·.label)).Nodup → s.label ∉ l.map (·.label) → ((behind a s l).map (·.label)).Nodup
  | [], _, _ => by simp [behind]
  | y :: l, hn, hs => by
    unfold behind
    simp only [List.map_cons, List.nodup_cons, List.mem_cons, not_or] at hn hs
    split
    · simp only [List.map_cons, List.nodup_cons, List.mem_cons, not_or]
      exact ⟨⟨fun e => hs.1 e.symm, hn.1⟩, hs.2, hn.2⟩
    · simp only [List.map_cons, List.nodup_cons]
      refine ⟨?_, behind_nd hn.2 hs.2⟩
      intro hm
      rw [List.mem_map] at hm
      obtain ⟨z, hz, e⟩ := hm
      rcases behind_mem hz with h | h
      · subst h; exact hs.1 e
      · exact hn.1 (by rw [List.mem_map]; exact ⟨z, h, e⟩)
theorem withText_map {l : Law} {x : Bytes} {t : Brought} : (withText l x t).map (·.label) = l.map (·.label) := by
  unfold withText
  rw [List.map_map]
  apply List.map_congr_left
  intro y _
  show (if y.label = x then { y with text := t } else y).label = y.label
  split <;> rfl
theorem withText_sec {l : Law} {x : Bytes} {t : Brought} (h : ∀ y ∈ l, SecOk y) (ht : t.length ≤ 4096) (hb : ∀ b ∈ t, 32 ≤ b.1 ∧ b.1 ≤ 126) : ∀ y ∈ withText l x t, SecOk y := by
  intro y hy
  unfold withText at hy
  rw [List.mem_map] at hy
  obtain ⟨z, hz, rfl⟩ := hy
  split
  · exact ⟨(h z hz).lab, ht, hb⟩
  · exact h z hz
theorem withText_ok {l : Law} {x : Bytes} {t : Brought} (h : LawOk l) (ht : t.length ≤ 4096) (hb : ∀ b ∈ t, 32 ≤ b.1 ∧ b.1 ≤ 126) : LawOk (withText l x t) :=
  ⟨by unfold withText; rw [List.length_map]; exact h.len, withText_sec h.sec ht hb, by rw [withText_map]; exact h.nd⟩
theorem followed_byt {n : Nat} {old new : Bytes} (hn : ∀ b ∈ new, 32 ≤ b ∧ b ≤ 126) : ∀ (k : Nat) (t : Brought), (∀ b ∈ t, 32 ≤ b.1 ∧ b.1 ≤ 126) → ∀ b ∈ followed n old new k t, 32 ≤ b.1 ∧ b.1 ≤ 126
  | k, [], _ => by cases k <;> simp [followed]
  | k + 1, x :: t, h => by
    unfold followed
    exact followed_byt hn k t fun b hb => h b (by simp [hb])
  | 0, x :: t, h => by
    unfold followed
    have ht : ∀ b ∈ t, 32 ≤ b.1 ∧ b.1 ≤ 126 := fun b hb => h b (by simp [hb])
    split
    · intro b hb
      simp at hb
      rcases hb with rfl | hb | hb
      · exact h _ (by simp)
      · exact by_byt hn b hb
      · exact followed_byt hn _ t ht b hb
    · intro b hb
      simp at hb
      rcases hb with rfl | hb
      · exact h _ (by simp)
      · exact followed_byt hn _ t ht b hb
/-- a section gets another label -/
def renamed (label to : Bytes) (l : Law) : Law := l.map fun x => if x.label = label then { x with label := to } else x
theorem renamed_nd {label to : Bytes} : ∀ {l : Law}, (l.map (·.label)).Nodup → to ∉ l.map (·.label) → ((renamed label to l).map (·.label)).Nodup
  | [], _, _ => by simp [renamed]
  | y :: l, hn, hs => by
    simp only [List.map_cons, List.nodup_cons, List.mem_cons, not_or] at hn hs
    have ih := renamed_nd (label := label) hn.2 hs.2
    unfold renamed at ih ⊢
    simp only [List.map_cons, List.nodup_cons]
    refine ⟨?_, ih⟩
    intro hm
    rw [List.mem_map] at hm
    obtain ⟨z, hz, e⟩ := hm
    rw [List.mem_map] at hz
    obtain ⟨u, hu, rfl⟩ := hz
    by_cases h1 : u.label = label <;> by_cases h2 : y.label = label
    · rw [if_pos h1, if_pos h2] at e
      exact hn.1 (by rw [List.mem_map]; exact ⟨u, hu, by rw [h1, h2]⟩)
    · rw [if_pos h1, if_neg h2] at e
      exact hs.1 e
    · rw [if_neg h1, if_pos h2] at e
      exact hs.2 (by rw [List.mem_map]; exact ⟨u, hu, e⟩)
    · rw [if_neg h1, if_neg h2] at e
      exact hn.1 (by rw [List.mem_map]; exact ⟨u, hu, e⟩)
theorem effect_ok {i n : Nat} {w : What} {l m : Law} (h : LawOk l) (hw : WhatOk i w) (e : effect n w l = some m) : LawOk m := by
  cases w with
  | put a lb t =>
    simp only [effect] at e
    split at e
    · cases e
    · rename_i hn
      simp only [not_or] at hn
      have hs := has_false (by simpa using hn.1 : has l lb = false)
      have hl : l.length < 64 := by have := hn.2.2; simp [SECTIONS] at this; omega
      have e2 := Option.some.inj e
      subst e2
      split
      · refine ⟨by simp; omega, ?_, ?_⟩
        · intro x hx
          simp at hx
          rcases hx with rfl | hx
          · exact sec_by hw.2.1 hw.2.2
          · exact h.sec x hx
        · simp only [List.map_cons, List.nodup_cons]
          exact ⟨hs, h.nd⟩
      · refine ⟨?_, ?_, behind_nd h.nd hs⟩
        · have := @behind_len a ⟨lb, by_ n t⟩ l; omega
        · intro x hx
          rcases behind_mem hx with rfl | hx
          · exact sec_by hw.2.1 hw.2.2
          · exact h.sec x hx
  | take lb =>
    simp only [effect] at e
    split at e
    · have e2 := Option.some.inj e
      subst e2
      refine ⟨Nat.le_trans (List.length_filter_le _ _) h.len, fun x hx => h.sec x (List.mem_filter.mp hx).1, ?_⟩
      exact List.Nodup.sublist (List.Sublist.map _ List.filter_sublist) h.nd
    · cases e
  | text lb t =>
    simp only [effect] at e
    split at e
    · have e2 := Option.some.inj e
      subst e2
      have := isText_len hw.2
      exact withText_ok h (by rw [by_len]; omega) (by_byt (isText_byt hw.2))
    · cases e
  | word lb o t =>
    simp only [effect] at e
    split at e
    · cases e
    · rename_i x hx
      split at e
      · rename_i k hk
        split at e
        · cases e
        · rename_i hlen
          have e2 := Option.some.inj e
          subst e2
          have hx2 : x ∈ l := List.mem_of_find?_eq_some hx
          refine withText_ok h (by simp [LONG] at hlen ⊢; omega) ?_
          intro b hb
          simp at hb
          rcases hb with hb | hb | hb
          · exact (h.sec x hx2).byt b (List.mem_of_mem_take hb)
          · exact by_byt (isText_byt hw.2.2.2) b hb
          · exact (h.sec x hx2).byt b (List.mem_of_mem_drop hb)
      · cases e
  | name lb to fo =>
    simp only [effect] at e
    split at e
    · cases e
    · rename_i hn
      simp only [not_or] at hn
      have hs := has_false (by simpa using hn.2 : has l to = false)
      have hsec : ∀ x ∈ renamed lb to l, SecOk x := by
        intro x hx
        unfold renamed at hx
        rw [List.mem_map] at hx
        obtain ⟨z, hz, rfl⟩ := hx
        split
        · exact ⟨hw.2, (h.sec z hz).len, (h.sec z hz).byt⟩
        · exact h.sec z hz
      split at e
      · split at e
        · cases e
        · rename_i hlong
          have e2 := Option.some.inj e
          subst e2
          simp at hlong
          refine ⟨by simp; exact h.len, ?_, ?_⟩
          · intro x hx
            rw [List.mem_map] at hx
            obtain ⟨z, hz, rfl⟩ := hx
            have hz2 := hsec z hz
            refine ⟨hz2.lab, ?_, followed_byt (fun b hb => by have := isLabel_byt hw.2 b hb; omega) _ _ hz2.byt⟩
            rw [List.mem_map] at hz
            obtain ⟨u, hu, rfl⟩ := hz
            have := hlong u hu
            simp [LONG] at this
            exact this
          · have := renamed_nd (label := lb) h.nd hs
            unfold renamed at this
            rw [List.map_map] at this ⊢
            rw [List.map_map]
            exact this
      · have e2 := Option.some.inj e
        subst e2
        exact ⟨by simp; exact h.len, hsec, renamed_nd h.nd hs⟩
  | void k =>
    simp only [effect] at e
    have e2 := Option.some.inj e
    subst e2
    exact h
theorem law_nil : LawOk [] := ⟨by simp, by simp, by simp⟩
end LD

namespace LD
open Kcs5
theorem knownOn_mem {s : Abs} {known : Nat} {x : Nat × Command} (h : x ∈ knownOn s known) : s.commands[x.1]? = some x.2 ∧ x.2.known ≤ known := by
  unfold knownOn at h
  rw [List.mem_filter] at h
  obtain ⟨h1, h2⟩ := h
  rw [List.mem_map] at h1
  obtain ⟨y, hy, rfl⟩ := h1
  have := List.mem_zipIdx' hy
  refine ⟨?_, of_decide_eq_true h2⟩
  rw [List.getElem?_eq_some_iff]
  exact ⟨this.1, this.2.symm⟩
/-- the order in which commands are taken -/
def ord (x y : Nat × Command) : Bool := decide (x.2.from_ < y.2.from_) || (x.2.from_ == y.2.from_ && decide (x.1 ≤ y.1))
def live (s : Abs) (on known : Nat) : List (Nat × Command) := (knownOn s known).filter fun x => !(voids (knownOn s known)).contains x.1 && counts on x.2
theorem counted_eq (s : Abs) (on known : Nat) : counted s on known = (live s on known).mergeSort ord := rfl
theorem ord_trans (a b c : Nat × Command) (h1 : ord a b = true) (h2 : ord b c = true) : ord a c = true := by
  unfold ord at *
  simp at *
  omega
theorem ord_total (a b : Nat × Command) : (ord a b || ord b a) = true := by
  unfold ord
  simp
  omega
theorem counted_perm (s : Abs) (on known : Nat) : (counted s on known).Perm (live s on known) := by
  rw [counted_eq]
  exact List.mergeSort_perm _ _
theorem counted_sorted (s : Abs) (on known : Nat) : (counted s on known).Pairwise fun a b => ord a b = true := by
  rw [counted_eq]
  exact List.pairwise_mergeSort ord_trans ord_total _
theorem knownOn_nd (s : Abs) (known : Nat) : ((knownOn s known).map (·.1)).Nodup := by
  unfold knownOn
  refine List.Nodup.sublist (List.Sublist.map _ List.filter_sublist) ?_
  rw [List.map_map]
  show (List.map (fun x : Command × Nat => x.2) s.commands.zipIdx).Nodup
  have : List.map (fun x : Command × Nat => x.2) s.commands.zipIdx = List.range' 0 s.commands.length := List.zipIdx_map_snd 0 s.commands
  rw [this]
  exact List.nodup_range'
theorem live_nd (s : Abs) (on known : Nat) : ((live s on known).map (·.1)).Nodup :=
  List.Nodup.sublist (List.Sublist.map _ List.filter_sublist) (knownOn_nd s known)
theorem counted_mem {s : Abs} {on known : Nat} {x : Nat × Command} (h : x ∈ counted s on known) : s.commands[x.1]? = some x.2 ∧ x.2.known ≤ known ∧ counts on x.2 = true := by
  have h1 := (counted_perm s on known).mem_iff.mp h
  unfold live at h1
  rw [List.mem_filter] at h1
  have h2 := knownOn_mem h1.1
  have h3 := h1.2
  simp at h3
  exact ⟨h2.1, h2.2, h3.2⟩
/-- two lists in one strict order with the same items are one -/
theorem sorted_unique {α : Type} {r : α → α → Prop} (asym : ∀ a b, r a b → r b a → False) : ∀ {l m : List α}, l.Perm m → l.Pairwise r → m.Pairwise r → l = m
  | [], m, p, _, _ => by simpa using p.symm
  | a :: l, [], p, _, _ => by simpa using p
  | a :: l, b :: m, p, h1, h2 => by
    rw [List.pairwise_cons] at h1 h2
    have e : a = b := by
      have ha : a ∈ b :: m := p.mem_iff.mp (by simp)
      have hb : b ∈ a :: l := p.mem_iff.mpr (by simp)
      simp at ha hb
      rcases ha with ha | ha
      · exact ha
      · rcases hb with hb | hb
        · exact hb.symm
        · exact (asym _ _ (h1.1 b hb) (h2.1 a ha)).elim
    subst e
    rw [sorted_unique asym (List.Perm.cons_inv p) h1.2 h2.2]
/-- whatever holds the live commands in strict order is what is counted -/
def ordS (x y : Nat × Command) : Prop := x.2.from_ < y.2.from_ ∨ (x.2.from_ = y.2.from_ ∧ x.1 < y.1)
theorem counted_strict (s : Abs) (on known : Nat) : (counted s on known).Pairwise ordS := by
  have h1 := counted_sorted s on known
  have h2 : ((counted s on known).map (·.1)).Nodup := ((counted_perm s on known).map _).nodup_iff.mpr (live_nd s on known)
  have h3 : (counted s on known).Pairwise fun a b => a.1 ≠ b.1 := List.pairwise_map.mp h2
  refine (h1.and h3).imp ?_
  intro a b h
  have h4 := h.1
  unfold ord at h4
  simp at h4
  unfold ordS
  have := h.2
  omega
theorem counted_unique {s : Abs} {on known : Nat} {l : List (Nat × Command)} (p : l.Perm (live s on known)) (h : l.Pairwise ordS) : counted s on known = l :=
  sorted_unique (r := ordS) (fun a b h1 h2 => by unfold ordS at *; omega) ((counted_perm s on known).trans p.symm) (counted_strict s on known) h
/-! what is taken -/
def tk (law : Nat) (x : Law × List Nat) (c : Nat × Command) : Law × List Nat := if c.2.law ≠ law then x else match effect c.1 c.2.what x.1 with
  | some m => (m, x.2)
  | none => (x.1, c.1 :: x.2)
theorem taken_eq (law : Nat) (l : List (Nat × Command)) : taken law l = l.foldl (tk law) ([], []) := rfl
theorem tk_ok {law : Nat} {x : Law × List Nat} {c : Nat × Command} (h : LawOk x.1) (hc : WhatOk c.1 c.2.what) : LawOk (tk law x c).1 := by
  unfold tk
  split
  · exact h
  · split
    · rename_i m e
      exact effect_ok h hc e
    · exact h
theorem foldl_tk_ok {law : Nat} : ∀ (l : List (Nat × Command)) (x : Law × List Nat), LawOk x.1 → (∀ c ∈ l, WhatOk c.1 c.2.what) → LawOk (l.foldl (tk law) x).1
  | [], x, h, _ => h
  | c :: l, x, h, hc => foldl_tk_ok l _ (tk_ok h (hc c (by simp))) fun d hd => hc d (by simp [hd])
theorem counted_what {s : Abs} (w : Wf s) {on known : Nat} : ∀ c ∈ counted s on known, WhatOk c.1 c.2.what := fun c hc => (w.ok _ _ (counted_mem hc).1).what
theorem stands_ok {s : Abs} (w : Wf s) (law on known : Nat) : LawOk (stands s law on known) := by
  unfold stands
  rw [taken_eq]
  exact foldl_tk_ok _ _ law_nil (counted_what w)
theorem live_len (s : Abs) (on known : Nat) : (live s on known).length ≤ s.commands.length := by
  unfold live knownOn
  refine Nat.le_trans (List.length_filter_le _ _) (Nat.le_trans (List.length_filter_le _ _) ?_)
  simp
theorem counted_len (s : Abs) (on known : Nat) : (counted s on known).length ≤ s.commands.length := by
  rw [(counted_perm s on known).length_eq]
  exact live_len s on known
end LD

namespace LD
open Kcs5
theorem nd_ne {l : Law} {x : Bytes} {y : Section_} (hn : x ∉ l.map (·.label)) (hy : y ∈ l) : y.label ≠ x := fun e => hn (by rw [List.mem_map]; exact ⟨y, hy, e⟩)
theorem withText_none {l : Law} {x : Bytes} {t : Brought} (hn : x ∉ l.map (·.label)) : withText l x t = l := by
  unfold withText
  conv => rhs; rw [← List.map_id l]
  apply List.map_congr_left
  intro y hy
  rw [if_neg (nd_ne hn hy)]
  rfl
theorem withText_set {x : Bytes} {t : Brought} : ∀ {l : Law} {k : Nat} {y : Section_}, (l.map (·.label)).Nodup → l[k]? = some y → y.label = x → withText l x t = l.set k { y with text := t }
  | [], k, y, _, h, _ => by simp at h
  | z :: l, 0, y, hn, h, e => by
    simp at h
    subst h
    simp only [List.map_cons, List.nodup_cons] at hn
    have := withText_none (t := t) (by rw [← e]; exact hn.1 : x ∉ l.map (·.label))
    unfold withText at this ⊢
    rw [List.map_cons, if_pos e, this]
    rfl
  | z :: l, k + 1, y, hn, h, e => by
    simp only [List.map_cons, List.nodup_cons] at hn
    have hk : l[k]? = some y := by simpa using h
    have ih := withText_set (t := t) hn.2 hk e
    have hz : z.label ≠ x := fun q => hn.1 (by rw [List.mem_map]; exact ⟨y, List.mem_of_getElem? hk, by rw [e, q]⟩)
    unfold withText at ih ⊢
    rw [List.map_cons, if_neg hz, ih]
    rfl
theorem filter_none {l : Law} {x : Bytes} (hn : x ∉ l.map (·.label)) : l.filter (fun y => y.label != x) = l := by
  rw [List.filter_eq_self]
  intro y hy
  simpa using nd_ne hn hy
theorem filter_erase {x : Bytes} : ∀ {l : Law} {k : Nat} {y : Section_}, (l.map (·.label)).Nodup → l[k]? = some y → y.label = x → l.filter (fun y => y.label != x) = l.eraseIdx k
  | [], k, y, _, h, _ => by simp at h
  | z :: l, 0, y, hn, h, e => by
    simp at h
    subst h
    simp only [List.map_cons, List.nodup_cons] at hn
    rw [List.filter_cons_of_neg (by simp [e]), filter_none (by rw [← e]; exact hn.1)]
    rfl
  | z :: l, k + 1, y, hn, h, e => by
    simp only [List.map_cons, List.nodup_cons] at hn
    have hk : l[k]? = some y := by simpa using h
    have hz : z.label ≠ x := fun q => hn.1 (by rw [List.mem_map]; exact ⟨y, List.mem_of_getElem? hk, by rw [e, q]⟩)
    rw [List.filter_cons_of_pos (by simpa using hz), filter_erase hn.2 hk e]
    rfl
theorem renamed_none {l : Law} {x to : Bytes} (hn : x ∉ l.map (·.label)) : renamed x to l = l := by
  unfold renamed
  conv => rhs; rw [← List.map_id l]
  apply List.map_congr_left
  intro y hy
  rw [if_neg (nd_ne hn hy)]
  rfl
theorem renamed_set {x to : Bytes} : ∀ {l : Law} {k : Nat} {y : Section_}, (l.map (·.label)).Nodup → l[k]? = some y → y.label = x → renamed x to l = l.set k { y with label := to }
  | [], k, y, _, h, _ => by simp at h
  | z :: l, 0, y, hn, h, e => by
    simp at h
    subst h
    simp only [List.map_cons, List.nodup_cons] at hn
    have := renamed_none (to := to) (by rw [← e]; exact hn.1 : x ∉ l.map (·.label))
    unfold renamed at this ⊢
    rw [List.map_cons, if_pos e, this]
    rfl
  | z :: l, k + 1, y, hn, h, e => by
    simp only [List.map_cons, List.nodup_cons] at hn
    have hk : l[k]? = some y := by simpa using h
    have ih := renamed_set (to := to) hn.2 hk e
    have hz : z.label ≠ x := fun q => hn.1 (by rw [List.mem_map]; exact ⟨y, List.mem_of_getElem? hk, by rw [e, q]⟩)
    unfold renamed at ih ⊢
    rw [List.map_cons, if_neg hz, ih]
    rfl
theorem behind_insert {x : Bytes} {s : Section_} : ∀ {l : Law} {k : Nat} {y : Section_}, (l.map (·.label)).Nodup → l[k]? = some y → y.label = x → behind x s l = l.take (k + 1) ++ s :: l.drop (k + 1)
  | [], k, y, _, h, _ => by simp at h
  | z :: l, 0, y, hn, h, e => by
    simp at h
    subst h
    unfold behind
    rw [if_pos e]
    rfl
  | z :: l, k + 1, y, hn, h, e => by
    simp only [List.map_cons, List.nodup_cons] at hn
    have hk : l[k]? = some y := by simpa using h
    have hz : z.label ≠ x := fun q => hn.1 (by rw [List.mem_map]; exact ⟨y, List.mem_of_getElem? hk, by rw [e, q]⟩)
    unfold behind
    rw [if_neg hz, behind_insert hn.2 hk e]
    rfl
/-- a section by its label, by place -/
theorem has_iff {l : Law} {x : Bytes} : has l x = true ↔ ∃ (k : Nat) (y : Section_), l[k]? = some y ∧ y.label = x := by
  unfold has
  rw [List.any_eq_true]
  constructor
  · rintro ⟨y, hy, e⟩
    obtain ⟨k, hk⟩ := List.getElem?_of_mem hy
    exact ⟨k, y, hk, by simpa using e⟩
  · rintro ⟨k, y, hk, e⟩
    exact ⟨y, List.mem_of_getElem? hk, by simpa using e⟩
theorem sectionOf_at {x : Bytes} : ∀ {l : Law} {k : Nat} {y : Section_}, (l.map (·.label)).Nodup → l[k]? = some y → y.label = x → sectionOf l x = some y
  | [], k, y, _, h, _ => by simp at h
  | z :: l, 0, y, hn, h, e => by
    simp at h
    subst h
    unfold sectionOf
    rw [List.find?_cons_of_pos (by simpa using e)]
  | z :: l, k + 1, y, hn, h, e => by
    simp only [List.map_cons, List.nodup_cons] at hn
    have hk : l[k]? = some y := by simpa using h
    have hz : z.label ≠ x := fun q => hn.1 (by rw [List.mem_map]; exact ⟨y, List.mem_of_getElem? hk, by rw [e, q]⟩)
    have ih := sectionOf_at hn.2 hk e
    unfold sectionOf at ih ⊢
    rw [List.find?_cons_of_neg (by simpa using hz), ih]
theorem sectionOf_none {l : Law} {x : Bytes} (h : has l x = false) : sectionOf l x = none := by
  unfold sectionOf
  rw [List.find?_eq_none]
  intro y hy
  have := nd_ne (has_false h) hy
  simpa using this
end LD

/-! The list of calls: read, played, told. Plain lists alone. -/
namespace LD
/-- one call of the flat list, by the specification -/
def stp (s : Kcs5.Abs) (c : List (List Int)) : Kcs5.Abs × List Int := Kcs5Neutral.step s (PyKcs5.whole c)
theorem played_whole : ∀ (raw : List (List (List Int))) (s : Kcs5.Abs), PyFlat.played Kcs5Neutral.step s (raw.map PyKcs5.whole) = PyFlat.played stp s raw
  | [], _ => rfl
  | c :: r, s => by
    show (Kcs5Neutral.step s (PyKcs5.whole c)).2 :: PyFlat.played Kcs5Neutral.step (Kcs5Neutral.step s (PyKcs5.whole c)).1 (r.map PyKcs5.whole) = _
    rw [played_whole r]
    rfl
theorem answersFrom_played : ∀ (l : List (List (List Int))) (s : Kcs5.Abs), Kcs5Neutral.answersFrom s l = PyFlat.played Kcs5Neutral.step s l
  | [], _ => rfl
  | c :: r, s => by
    show (Kcs5Neutral.step s c).2 :: Kcs5Neutral.answersFrom (Kcs5Neutral.step s c).1 r = _
    rw [answersFrom_played r]
    rfl
theorem foldl_add : ∀ (l : List Nat) (n : Nat), l.foldl (fun (x y : Nat) => x + y) n = n + l.sum
  | [], n => by simp
  | x :: l, n => by
    rw [List.foldl_cons, foldl_add l, List.sum_cons]
    omega
theorem told_cons (a : List Int) (l : List (List Int)) : PyFlat.told (a :: l) = ((a.length : Int) :: a) ++ PyFlat.told l := by
  simp [PyFlat.told]
theorem told_len : ∀ l : List (List Int), (PyFlat.told l).length = (l.map List.length).sum + l.length
  | [] => rfl
  | a :: l => by
    rw [told_cons, List.length_append, told_len l]
    simp
    omega
theorem played_len : ∀ (raw : List (List (List Int))) (s : Kcs5.Abs), (PyFlat.played stp s raw).length = raw.length
  | [], _ => rfl
  | c :: r, s => by
    show (PyFlat.played stp (stp s c).1 r).length + 1 = r.length + 1
    rw [played_len r]
theorem put_cons (c : List (List Int)) (r : List (List (List Int))) : PyFlat.put (c :: r) = PyFlat.put1 c ++ PyFlat.put r := rfl
theorem asked_parse {ns : List Int} (h : PyKcs5.answers_asked ns = true) : ∃ raw, ns = PyFlat.put raw ∧ (∀ c ∈ raw, PyFlat.okCall PyKcs5.shape c ∧ PyInside.call PyKcs5.bound c = true) ∧ raw.length ≤ 2000 ∧
    PyKcs5.answers ns = PyFlat.told (PyFlat.played stp Kcs5.empty raw) ∧ ((PyFlat.played stp Kcs5.empty raw).map List.length).sum < 1000000 := by
  unfold PyKcs5.answers_asked at h
  cases e : PyFlat.calls PyKcs5.shape ns.length ns with
  | none => rw [e] at h; cases h
  | some raw =>
    rw [e] at h
    simp only [Bool.and_eq_true] at h
    obtain ⟨⟨⟨⟨_, h2⟩, h3⟩, h4⟩, _⟩ := h
    have p := PyFlat.put_calls _ _ _ e
    refine ⟨raw, p.1, fun c hc => ⟨p.2 c hc, ?_⟩, ?_, ?_, ?_⟩
    · exact List.all_eq_true.mp h3 c hc
    · exact of_decide_eq_true h2
    · unfold PyKcs5.answers PyKcs5.calls
      rw [e]
      show PyFlat.told (PyFlat.played Kcs5Neutral.step Kcs5Neutral.start (raw.map PyKcs5.whole)) = _
      rw [played_whole]
      rfl
    · unfold Kcs5Neutral.asked at h4
      simp only [Bool.and_eq_true] at h4
      have h5 := of_decide_eq_true (show decide (((Kcs5Neutral.answers (raw.map PyKcs5.whole)).map List.length).foldl (fun (x y : Nat) => x + y) 0 < 1000000) = true from h4.2)
      rw [foldl_add] at h5
      unfold Kcs5Neutral.answers at h5
      rw [answersFrom_played, played_whole] at h5
      have h6 : Kcs5Neutral.start = Kcs5.empty := rfl
      rw [h6] at h5
      omega
end LD

namespace LD
open Kcs5
/-! ### places -/
def mPlaces (t r : List Nat) : List Nat := (List.range (t.length + 1 - r.length)).filter fun p => (t.drop p).take r.length == r
theorem filter_range_cut {n m : Nat} {p : Nat → Bool} (h : m ≤ n) : (List.range n).filter (fun k => decide (k < m) && p k) = (List.range m).filter p := by
  obtain ⟨d, rfl⟩ : ∃ d, n = m + d := ⟨n - m, by omega⟩
  clear h
  induction d with
  | zero =>
    apply List.filter_congr
    intro k hk
    simp at hk
    simp [hk]
  | succ d ih =>
    rw [← Nat.add_assoc, List.range_succ, List.filter_append, ih]
    simp
    intro h; omega
theorem places_eq {old : Bytes} {t : Brought} : places old t = mPlaces (bytesOf t) old := by
  unfold places mPlaces
  have e : (bytesOf t).length = t.length := by simp [bytesOf]
  rw [e, ← filter_range_cut (n := t.length + 1) (m := t.length + 1 - old.length) (by omega)]
  apply List.filter_congr
  intro k hk
  simp at hk
  congr 1
  · rw [decide_eq_decide]; omega
  · simp [bytesOf, List.map_take, List.map_drop]
/-! ### exchange -/
def mEx {α : Type} (t : List α) (size : Nat) (row : List α) : List Nat → Nat → List α
  | [], d => t.drop d
  | p :: ps, d => (t.drop d).take (p - d) ++ (row ++ mEx t size row ps (p + size))
theorem mEx_map {α β : Type} (f : α → β) (t : List α) (size : Nat) (row : List α) : ∀ (ps : List Nat) (d : Nat), (mEx t size row ps d).map f = mEx (t.map f) size (row.map f) ps d
  | [], d => by simp [mEx, List.map_drop]
  | p :: ps, d => by simp [mEx, List.map_take, List.map_drop, mEx_map f t size row ps]
theorem by_fst (n : Nat) (t : Bytes) : (by_ n t).map Prod.fst = t := by simp [by_, Function.comp_def]
theorem by_snd (n : Nat) (t : Bytes) : (by_ n t).map Prod.snd = List.replicate t.length n := by
  simp only [by_, List.map_map]
  induction t with
  | nil => rfl
  | cons x t ih => simp [List.replicate_succ] ; simpa using ih
theorem word_eq {t : Brought} {k n : Nat} {old row : Bytes} : t.take k ++ by_ n row ++ t.drop (k + old.length) = mEx t old.length (by_ n row) [k] 0 := by
  simp [mEx]
/-! ### occurrences -/
def occ (pat : List Nat) : Nat → List Nat → List Nat
  | _, [] => []
  | off, x :: t => if (x :: t).take pat.length == pat then off :: occ pat (off + 1) t else occ pat (off + 1) t
theorem occ_range {pat : List Nat} (hp : pat ≠ []) : ∀ (t : List Nat) (off : Nat), occ pat off t = ((List.range (t.length + 1 - pat.length)).filter fun p => (t.drop p).take pat.length == pat).map (· + off)
  | [], off => by
    have : 0 < pat.length := List.length_pos_iff.mpr hp
    have e : ([] : List Nat).length + 1 - pat.length = 0 := by simp; omega
    rw [e]; rfl
  | x :: t, off => by
    have hpos : 0 < pat.length := List.length_pos_iff.mpr hp
    have ih := occ_range hp t (off + 1)
    unfold occ
    by_cases hl : pat.length ≤ t.length + 1
    · have e : (x :: t).length + 1 - pat.length = (t.length + 1 - pat.length) + 1 := by simp; omega
      rw [e, List.range_succ_eq_map, List.filter_cons]
      have e2 : ((x :: t).drop 0).take pat.length = (x :: t).take pat.length := rfl
      rw [e2]
      have e3 : (List.filter (fun p => ((x :: t).drop p).take pat.length == pat) (List.map Nat.succ (List.range (t.length + 1 - pat.length)))).map (· + off) = occ pat (off + 1) t := by
        rw [ih, List.filter_map, List.map_map]
        have : ((fun p => ((x :: t).drop p).take pat.length == pat) ∘ Nat.succ) = fun p => (t.drop p).take pat.length == pat := by
          funext p; simp
        rw [this]
        apply List.map_congr_left
        intro k _
        simp; omega
      split
      · rw [List.map_cons, e3]; simp
      · exact e3.symm
    · have e : (x :: t).length + 1 - pat.length = 0 := by simp; omega
      rw [e]
      have h1 : ((x :: t).take pat.length == pat) = false := by
        rw [beq_eq_false_iff_ne]
        intro h
        have := congrArg List.length h
        simp at this
        omega
      rw [h1]
      have e5 : t.length + 1 - pat.length = 0 := by omega
      rw [ih, e5]
      rfl
theorem mPlaces_occ {t pat : List Nat} (hp : pat ≠ []) : mPlaces t pat = occ pat 0 t := by
  rw [occ_range hp]; simp [mPlaces]
/-! ### references -/
def nonB (b : Nat) : Bool := b != 91 && b != 93
theorem label_nonB {l : Bytes} (h : isLabel l = true) : ∀ b ∈ l, labelByte b = true := by
  unfold isLabel at h
  simp at h
  exact h.2
theorem lb_nonB {b : Nat} (h : labelByte b = true) : b ≠ 91 ∧ b ≠ 93 := by
  unfold labelByte at h
  simp at h
  exact ⟨h.1.2, h.2⟩
theorem takeWhile_app {α : Type} {p : α → Bool} : ∀ {l : List α} {x : α} {r : List α}, (∀ b ∈ l, p b = true) → p x = false → (l ++ x :: r).takeWhile p = l
  | [], x, r, _, h => by simp [h]
  | b :: l, x, r, hl, h => by
    rw [List.cons_append, List.takeWhile_cons, hl b (by simp)]
    have ih := takeWhile_app (p := p) (l := l) (x := x) (r := r) (fun c hc => hl c (by simp [hc])) h
    simp [ih]
theorem refAt_iff {t : Brought} {old : Bytes} (h : isLabel old = true) : refAt t = some old ↔ (bytesOf t).take (old.length + 1) = old ++ [93] := by
  unfold refAt
  constructor
  · intro e
    simp only at e
    split at e
    · rename_i hc
      have e2 := Option.some.inj e
      obtain ⟨c1, c2⟩ := hc
      have e3 : t = t.takeWhile (fun x => labelByte x.1) ++ t.dropWhile (fun x => labelByte x.1) := (List.takeWhile_append_dropWhile).symm
      have e4 : t.drop (t.takeWhile fun x => labelByte x.1).length = t.dropWhile (fun x => labelByte x.1) := by
        conv => lhs; arg 2; rw [e3]
        rw [List.drop_left]
      rw [e4] at c2
      cases e5 : t.dropWhile (fun x => labelByte x.1) with
      | nil => rw [e5] at c2; simp at c2
      | cons y r =>
        rw [e5] at c2
        simp at c2
        have e6 : bytesOf t = old ++ 93 :: bytesOf r := by
          rw [e3, e5, ← e2]
          simp [bytesOf, c2]
        rw [e6, List.take_append]
        simp
        exact List.take_of_length_le (by omega)
    · cases e
  · intro e
    have e6 : bytesOf t = old ++ 93 :: (bytesOf t).drop (old.length + 1) := by
      conv => lhs; rw [← List.take_append_drop (old.length + 1) (bytesOf t), e]
      simp
    have e7 : bytesOf (t.takeWhile fun x => labelByte x.1) = (bytesOf t).takeWhile labelByte := by
      simp only [bytesOf]
      rw [List.takeWhile_map]
      rfl
    have e8 : (bytesOf t).takeWhile labelByte = old := by
      rw [e6]
      exact takeWhile_app (label_nonB h) (by decide)
    have e9 : (t.takeWhile fun x => labelByte x.1).length = old.length := by
      rw [← e8, ← e7]; simp [bytesOf]
    simp only
    rw [e7, e8, e9, if_pos]
    refine ⟨h, ?_⟩
    have : (t.drop old.length).head?.map Prod.fst = ((bytesOf t).drop old.length).head? := by
      simp [bytesOf]
    rw [this, e6]
    simp
theorem occ_skip {pat : List Nat} {c : Nat} {ps : List Nat} (hp : pat = c :: ps) : ∀ (k : Nat) (t : List Nat) (off : Nat), (∀ b ∈ t.take k, b ≠ c) → k ≤ t.length → occ pat off t = occ pat (off + k) (t.drop k)
  | 0, t, off, _, _ => by simp
  | k + 1, [], off, _, h => by simp at h
  | k + 1, x :: t, off, hb, hl => by
    have ih := occ_skip hp k t (off + 1) (fun b m => hb b (by simp [m])) (by simpa using hl)
    have hx : x ≠ c := hb x (by simp)
    have h1 : ((x :: t).take pat.length == pat) = false := by
      rw [beq_eq_false_iff_ne, hp]
      intro h
      simp at h
      exact hx h.1
    have e0 : occ pat off (x :: t) = occ pat (off + 1) t := by
      rw [occ, h1]
      simp
    rw [e0, ih, show off + 1 + k = off + (k + 1) from by omega]
    rfl
theorem occ_ge {pat : List Nat} : ∀ (t : List Nat) (off p : Nat), p ∈ occ pat off t → off ≤ p
  | [], off, p, h => by simp [occ] at h
  | x :: t, off, p, h => by
    unfold occ at h
    split at h
    · simp at h
      rcases h with h | h
      · omega
      · have := occ_ge t (off + 1) p h; omega
    · have := occ_ge t (off + 1) p h; omega
theorem followed_skip {n : Nat} {old new : Bytes} : ∀ (k : Nat) (t : Brought), followed n old new k t = followed n old new 0 (t.drop k)
  | 0, t => by simp
  | k + 1, [] => by simp [followed]
  | k + 1, x :: t => by
    rw [show followed n old new (k + 1) (x :: t) = followed n old new k t from by rw [followed]]
    rw [followed_skip k t]
    rfl
theorem mEx_step {α : Type} {T : List α} {size : Nat} {row : List α} {x : α} {t : List α} {off : Nat} (h : T.drop off = x :: t) : ∀ (ps : List Nat), (∀ p ∈ ps, off + 1 ≤ p) → mEx T size row ps off = x :: mEx T size row ps (off + 1)
  | [], _ => by
    simp only [mEx]
    rw [h, ← List.drop_drop, h]; rfl
  | p :: ps, hp => by
    have h1 := hp p (by simp)
    obtain ⟨d, rfl⟩ : ∃ d, p = off + 1 + d := ⟨p - (off + 1), by omega⟩
    simp only [mEx]
    rw [show off + 1 + d - off = d + 1 from by omega, show off + 1 + d - (off + 1) = d from by omega]
    rw [← List.drop_drop (i := 1), h]
    rfl
theorem followed_eq {n : Nat} {old new : Bytes} (ho : isLabel old = true) (T : Brought) : ∀ (m : Nat) (t : Brought) (off : Nat), t.length ≤ m → T.drop off = t →
    followed n old new 0 t = mEx T old.length (by_ n new) ((occ (91 :: (old ++ [93])) off (bytesOf t)).map (· + 1)) off
  | m, [], off, _, h => by
    simp [followed, occ, bytesOf, mEx, h]
  | 0, x :: t, off, hm, h => by simp at hm
  | m + 1, x :: t, off, hm, h => by
    have hT : T.drop (off + 1) = t := by rw [← List.drop_drop, h]; rfl
    have eb : bytesOf (x :: t) = x.1 :: bytesOf t := by simp [bytesOf]
    have hpat : ((x.1 :: bytesOf t).take (91 :: (old ++ [93])).length == (91 :: (old ++ [93]))) = decide (x.1 = 91 ∧ refAt t = some old) := by
      rw [Bool.eq_iff_iff, beq_iff_eq, decide_eq_true_iff, refAt_iff ho]
      simp
    rw [followed, eb]
    unfold occ
    rw [hpat]
    by_cases hc : x.1 = 91 ∧ refAt t = some old
    · rw [if_pos hc, decide_eq_true hc]
      simp only [if_true, List.map_cons]
      have hr := (refAt_iff ho).mp hc.2
      have hlen : old.length ≤ (bytesOf t).length := by
        have := congrArg List.length hr
        simp at this
        omega
      have htk : (bytesOf t).take old.length = old := by
        have := congrArg (List.take old.length) hr
        rw [List.take_take] at this
        simpa using this
      rw [occ_skip (pat := 91 :: (old ++ [93])) rfl old.length (bytesOf t) (off + 1) (fun b hb => by rw [htk] at hb; exact (lb_nonB (label_nonB ho b hb)).1) hlen]
      rw [followed_skip]
      have eb2 : (bytesOf t).drop old.length = bytesOf (t.drop old.length) := by simp [bytesOf]
      rw [eb2]
      have hd : T.drop (off + 1 + old.length) = t.drop old.length := by rw [← List.drop_drop, hT]
      have ih := followed_eq (n := n) (new := new) ho T m (t.drop old.length) (off + 1 + old.length) (by simp at hm ⊢; omega) hd
      rw [ih]
      simp only [mEx]
      rw [h]
      simp
    · rw [if_neg hc, decide_eq_false hc]
      simp only [Bool.false_eq_true, if_false]
      have ih := followed_eq (n := n) (new := new) ho T m t (off + 1) (by simpa using hm) hT
      rw [ih, mEx_step h]
      intro p hp
      simp at hp
      obtain ⟨a, ha, rfl⟩ := hp
      have := occ_ge _ _ _ ha
      omega
theorem followed_mEx {n : Nat} {old new : Bytes} (ho : isLabel old = true) (t : Brought) :
    followed n old new 0 t = mEx t old.length (by_ n new) ((mPlaces (bytesOf t) ([91] ++ old ++ [93])).map (· + 1)) 0 := by
  rw [mPlaces_occ (by simp)]
  exact followed_eq ho t t.length t 0 (Nat.le_refl _) rfl
/-! ### references in a text -/
/-- acc: what came since the last [ -/
def scan : Option (List Nat) → List Nat → List Bytes
  | _, [] => []
  | op, x :: t => if x = 91 then scan (some []) t else if x = 93 then (match op with
      | some acc => (if isLabel acc = true then [acc] else []) ++ scan none t
      | none => scan none t) else scan (op.map (· ++ [x])) t
def tailRef (acc : List Nat) (t : List Nat) : List Bytes := if isLabel (acc ++ t.takeWhile nonB) = true ∧ (t.drop (t.takeWhile nonB).length).head? = some 93 then [acc ++ t.takeWhile nonB] else []
theorem tailRef_refAt {t : Brought} : tailRef [] (bytesOf t) = (refAt t).toList := by
  cases e : refAt t with
  | some l =>
    have hl : isLabel l = true := by
      unfold refAt at e
      simp only at e
      split at e
      · rename_i h; have := Option.some.inj e; rw [← this]; exact h.1
      · cases e
    have h1 := (refAt_iff hl).mp e
    have e6 : bytesOf t = l ++ 93 :: (bytesOf t).drop (l.length + 1) := by
      conv => lhs; rw [← List.take_append_drop (l.length + 1) (bytesOf t), h1]
      simp
    have e8 : (bytesOf t).takeWhile nonB = l := by
      rw [e6]
      refine takeWhile_app (fun b hb => ?_) (by decide)
      have := lb_nonB (label_nonB hl b hb)
      simp [nonB, this.1, this.2]
    unfold tailRef
    rw [e8, List.nil_append, if_pos ⟨hl, by rw [e6]; simp⟩]
    rfl
  | none =>
    unfold tailRef
    rw [if_neg]
    · rfl
    · rintro ⟨h1, h2⟩
      rw [List.nil_append] at h1
      have e3 : bytesOf t = (bytesOf t).takeWhile nonB ++ (bytesOf t).drop ((bytesOf t).takeWhile nonB).length := by
        conv => lhs; rw [← List.takeWhile_append_dropWhile (p := nonB) (l := bytesOf t)]
        congr 1
        conv => rhs; arg 2; rw [← List.takeWhile_append_dropWhile (p := nonB) (l := bytesOf t)]
        rw [List.drop_left]
      cases e4 : (bytesOf t).drop ((bytesOf t).takeWhile nonB).length with
      | nil => rw [e4] at h2; simp at h2
      | cons y r =>
        rw [e4] at h2
        simp at h2
        subst h2
        have : refAt t = some ((bytesOf t).takeWhile nonB) := by
          rw [refAt_iff h1]
          rw [e4] at e3
          generalize hw : (bytesOf t).takeWhile nonB = w at e3
          rw [e3, List.take_append]
          simp
          exact List.take_of_length_le (by omega)
        rw [this] at e; cases e
theorem scan_some : ∀ (t : Brought) (op : Option (List Nat)), scan op (bytesOf t) = (match op with | some acc => tailRef acc (bytesOf t) | none => []) ++ refs t
  | [], op => by
    cases op with
    | none => simp [scan, bytesOf, refs]
    | some acc => simp [scan, bytesOf, refs, tailRef]
  | x :: t, op => by
    have eb : bytesOf (x :: t) = x.1 :: bytesOf t := by simp [bytesOf]
    rw [eb]
    unfold scan refs
    by_cases h1 : x.1 = 91
    · rw [if_pos h1, if_pos h1, scan_some t (some [])]
      simp only
      rw [tailRef_refAt]
      have e0 : (match op with | some acc => tailRef acc (x.1 :: bytesOf t) | none => ([] : List Bytes)) = [] := by
        cases op with
        | none => rfl
        | some acc => simp [tailRef, h1, nonB]
      rw [e0]
      cases refAt t <;> simp
    · rw [if_neg h1, if_neg h1]
      by_cases h2 : x.1 = 93
      · rw [if_pos h2]
        cases op with
        | none => simp only [scan_some t none]
        | some acc =>
          simp only [scan_some t none, List.nil_append]
          congr 1
          simp [tailRef, h2, nonB]
      · rw [if_neg h2, scan_some t (op.map (· ++ [x.1]))]
        cases op with
        | none => rfl
        | some acc =>
          simp only [Option.map_some]
          congr 1
          have hn : nonB x.1 = true := by simp [nonB, h1, h2]
          simp [tailRef, hn]
theorem scan_refs (t : Brought) : scan none (bytesOf t) = refs t := by rw [scan_some t none]; rfl
/-! ### stretches -/
def mRows : Nat → List Nat → List (Nat × Nat)
  | _, [] => []
  | s, o :: t => if t.head? = some o then mRows (s + 1) t else (s + 1, o) :: mRows 0 t
theorem stretches_cons (x : Nat × Nat) (t : Brought) : ∃ k r, stretches (x :: t) = (k, x.2) :: r := by
  unfold stretches
  split
  · rename_i k n r e
    split
    · rename_i h; exact ⟨_, _, by rw [h]⟩
    · exact ⟨_, _, rfl⟩
  · exact ⟨_, _, rfl⟩
theorem mRows_eq : ∀ (t : Brought) (s : Nat), mRows s (t.map Prod.snd) = match stretches t with
    | [] => []
    | (k, n) :: r => (k + s, n) :: r
  | [], s => by simp [mRows, stretches]
  | [x], s => by simp [mRows, stretches]; omega
  | x :: y :: t, s => by
    have ih := mRows_eq (y :: t)
    obtain ⟨k, r, e⟩ := stretches_cons y t
    have ih0 := ih 0
    have ih1 := ih (s + 1)
    rw [e] at ih0 ih1
    simp only at ih0 ih1
    have e2 : stretches (x :: y :: t) = if y.2 = x.2 then (k + 1, y.2) :: r else (1, x.2) :: (k, y.2) :: r := by
      rw [stretches, e]
    rw [e2]
    simp only [List.map_cons] at ih0 ih1 ⊢
    rw [mRows]
    by_cases h : y.2 = x.2
    · simp only [List.head?_cons, h, if_true]
      rw [h] at ih1
      rw [ih1]
      simp; omega
    · rw [if_neg (by simpa using h), if_neg h, ih0]
      simp; omega
theorem rows_stretches (t : Brought) : mRows 0 (t.map Prod.snd) = stretches t := by
  rw [mRows_eq]
  cases stretches t with
  | nil => rfl
  | cons x r => rfl
end LD

namespace LD
open Kcs5
/-! ### the steps of a law -/
abbrev Stp := Nat × Bool × Law
def stepOf (W : Nat → What) (l : Law) (n : Nat) : Stp := match effect n (W n) l with
  | some m => (n, true, m)
  | none => (n, false, l)
def stepsOf (W : Nat → What) : Law → List Nat → List Stp
  | _, [] => []
  | l, n :: r => stepOf W l n :: stepsOf W (stepOf W l n).2.2 r
def lawOf (W : Nat → What) (l : Law) (ns : List Nat) : Law := ns.foldl (fun l n => (stepOf W l n).2.2) l
theorem stepsOf_nums {W : Nat → What} : ∀ (ns : List Nat) (l : Law), (stepsOf W l ns).map (·.1) = ns
  | [], _ => rfl
  | n :: r, l => by
    have : (stepOf W l n).1 = n := by unfold stepOf; split <;> rfl
    simp [stepsOf, stepsOf_nums r, this]
theorem stepsOf_len {W : Nat → What} (ns : List Nat) (l : Law) : (stepsOf W l ns).length = ns.length := by
  have := congrArg List.length (stepsOf_nums (W := W) ns l)
  simpa using this
theorem stepsOf_snoc {W : Nat → What} : ∀ (ns : List Nat) (l : Law) (n : Nat), stepsOf W l (ns ++ [n]) = stepsOf W l ns ++ [stepOf W (lawOf W l ns) n]
  | [], l, n => rfl
  | m :: r, l, n => by
    simp only [List.cons_append, stepsOf]
    rw [stepsOf_snoc r]
    rfl
theorem lawOf_snoc {W : Nat → What} (ns : List Nat) (l : Law) (n : Nat) : lawOf W l (ns ++ [n]) = (stepOf W (lawOf W l ns) n).2.2 := by
  simp [lawOf]
/-- the law behind the last step -/
theorem steps_last {W : Nat → What} {ns : List Nat} {x : Stp} (h : (stepsOf W [] ns)[ns.length - 1]? = some x) (hn : ns ≠ []) : x.2.2 = lawOf W [] ns := by
  obtain ⟨r, n, rfl⟩ : ∃ r n, ns = r ++ [n] := by
    refine ⟨ns.dropLast, ns.getLast hn, ?_⟩
    exact (List.dropLast_concat_getLast hn).symm
  rw [stepsOf_snoc] at h
  rw [List.getElem?_append_right (by rw [stepsOf_len]; simp)] at h
  simp [stepsOf_len] at h
  subst h
  rw [lawOf_snoc]
theorem step_ok {W : Nat → What} {l : Law} {n : Nat} (h : LawOk l) (hw : WhatOk n (W n)) : LawOk (stepOf W l n).2.2 := by
  unfold stepOf
  split
  · rename_i m e; exact effect_ok h hw e
  · exact h
theorem lawOf_ok {W : Nat → What} : ∀ (ns : List Nat) (l : Law), LawOk l → (∀ n ∈ ns, WhatOk n (W n)) → LawOk (lawOf W l ns)
  | [], l, h, _ => h
  | n :: r, l, h, hw => lawOf_ok r _ (step_ok h (hw n (by simp))) fun m hm => hw m (by simp [hm])
theorem stepOf_congr {W W' : Nat → What} {l : Law} {n : Nat} (h : W n = W' n) : stepOf W l n = stepOf W' l n := by unfold stepOf; rw [h]
theorem stepsOf_congr {W W' : Nat → What} : ∀ (ns : List Nat) (l : Law), (∀ n ∈ ns, W n = W' n) → stepsOf W l ns = stepsOf W' l ns
  | [], _, _ => rfl
  | n :: r, l, h => by
    unfold stepsOf
    rw [stepOf_congr (h n (by simp)), stepsOf_congr r _ fun m hm => h m (by simp [hm])]
/-! ### which are kept -/
def keepM : List Stp → List Nat → List Stp
  | [], _ => []
  | (n, b, l) :: r, [] => if b = true then [] else keepM r []
  | (n, b, l) :: r, c :: cs => if n = c then (n, b, l) :: keepM r cs else if b = true then [] else keepM r (c :: cs)
theorem stepOf_fst {W : Nat → What} {l : Law} {n : Nat} : (stepOf W l n).1 = n := by unfold stepOf; split <;> rfl
theorem stepOf_false {W : Nat → What} {l : Law} {n : Nat} (h : (stepOf W l n).2.1 = false) : (stepOf W l n).2.2 = l := by
  unfold stepOf at h ⊢; split at h <;> simp_all
theorem keepM_eq {W : Nat → What} : ∀ (ns : List Nat) (l : Law) (cs : List Nat), ∃ k, k ≤ cs.length ∧ keepM (stepsOf W l ns) cs = stepsOf W l (cs.take k)
  | [], l, cs => ⟨0, by simp, by simp [stepsOf, keepM]⟩
  | n :: r, l, [] => by
    rw [show stepsOf W l (n :: r) = stepOf W l n :: stepsOf W (stepOf W l n).2.2 r from rfl]
    generalize hs : stepOf W l n = st
    obtain ⟨n', b, l'⟩ := st
    simp only [keepM]
    split
    · exact ⟨0, by simp, by simp [stepsOf]⟩
    · rename_i hb
      have hl : l' = l := by
        have := stepOf_false (W := W) (l := l) (n := n) (by rw [hs]; simpa using hb)
        rw [hs] at this; exact this
      subst hl
      exact keepM_eq r l' []
  | n :: r, l, c :: cs => by
    rw [show stepsOf W l (n :: r) = stepOf W l n :: stepsOf W (stepOf W l n).2.2 r from rfl]
    generalize hs : stepOf W l n = st
    obtain ⟨n', b, l'⟩ := st
    have hn : n' = n := by have := @stepOf_fst W l n; rw [hs] at this; exact this
    subst hn
    simp only [keepM]
    split
    · rename_i hc
      subst hc
      obtain ⟨k, hk, e⟩ := keepM_eq (W := W) r l' cs
      refine ⟨k + 1, by simp; omega, ?_⟩
      rw [e]
      simp only [List.take_succ_cons, stepsOf, hs]
    · split
      · exact ⟨0, by simp, by simp [stepsOf]⟩
      · rename_i hb
        have hl : l' = l := by
          have := stepOf_false (W := W) (l := l) (n := n') (by rw [hs]; simpa using hb)
          rw [hs] at this; exact this
        subst hl
        exact keepM_eq r l' (c :: cs)
/-- the loop of keep_same: what is kept so far, what is left -/
theorem keepM_cut {st : Stp} {r : List Stp} {cs : List Nat} : keepM (st :: r) cs = match cs with
    | [] => if st.2.1 = true then [] else keepM r []
    | c :: cs' => if st.1 = c then st :: keepM r cs' else if st.2.1 = true then [] else keepM r (c :: cs') := by
  obtain ⟨n, b, l⟩ := st
  cases cs <;> rfl
/-! ### what is taken -/
def idleOf (W : Nat → What) (l : Law) (ns : List Nat) : List Nat := ((stepsOf W l ns).filter fun x => !x.2.1).map (·.1)
theorem taken_fold {W : Nat → What} {law : Nat} : ∀ (L : List (Nat × Command)) (l : Law) (ids : List Nat), (∀ x ∈ L, W x.1 = x.2.what) →
    L.foldl (tk law) (l, ids) = (lawOf W l ((L.filter fun x => decide (x.2.law = law)).map (·.1)), (idleOf W l ((L.filter fun x => decide (x.2.law = law)).map (·.1))).reverse ++ ids)
  | [], l, ids, _ => by simp [lawOf, idleOf, stepsOf]
  | x :: L, l, ids, h => by
    have ih := fun l ids => taken_fold (W := W) (law := law) L l ids fun y hy => h y (by simp [hy])
    rw [List.foldl_cons]
    by_cases hl : x.2.law = law
    · rw [List.filter_cons_of_pos (by simpa using hl)]
      have e1 : tk law (l, ids) x = match effect x.1 x.2.what l with | some m => (m, ids) | none => (l, x.1 :: ids) := by
        unfold tk
        rw [if_neg (by simpa using hl)] <;> rfl
      have hW := h x (by simp)
      rw [e1, List.map_cons]
      have e2 : lawOf W l (x.1 :: (L.filter fun x => decide (x.2.law = law)).map (·.1)) = lawOf W (stepOf W l x.1).2.2 ((L.filter fun x => decide (x.2.law = law)).map (·.1)) := rfl
      have e3 : idleOf W l (x.1 :: (L.filter fun x => decide (x.2.law = law)).map (·.1)) = (if (stepOf W l x.1).2.1 = true then [] else [x.1]) ++ idleOf W (stepOf W l x.1).2.2 ((L.filter fun x => decide (x.2.law = law)).map (·.1)) := by
        unfold idleOf
        rw [stepsOf, List.filter_cons]
        cases hb : (stepOf W l x.1).2.1 <;> simp [stepOf_fst]
      rw [e2, e3]
      unfold stepOf
      rw [hW]
      cases he : effect x.1 x.2.what l with
      | some m => simp [ih]
      | none => simp [ih]
    · rw [List.filter_cons_of_neg (by simpa using hl)]
      have e1 : tk law (l, ids) x = (l, ids) := by unfold tk; rw [if_pos hl]
      rw [e1, ih]
end LD

namespace LD
open Kcs5
/-! ### states: commands with their numbers -/
def idx (s : Abs) : List (Nat × Command) := s.commands.zipIdx.map fun x => (x.2, x.1)
theorem knownOn_idx (s : Abs) (k : Nat) : knownOn s k = (idx s).filter fun x => decide (x.2.known ≤ k) := rfl
theorem idx_mem {s : Abs} {x : Nat × Command} (h : x ∈ idx s) : s.commands[x.1]? = some x.2 := by
  unfold idx at h
  rw [List.mem_map] at h
  obtain ⟨y, hy, rfl⟩ := h
  have := List.mem_zipIdx' hy
  rw [List.getElem?_eq_some_iff]
  exact ⟨this.1, this.2.symm⟩
theorem idx_len (s : Abs) : (idx s).length = s.commands.length := by simp [idx]
theorem idx_nd (s : Abs) : ((idx s).map (·.1)).Nodup := by
  unfold idx
  rw [List.map_map]
  show (List.map (fun x : Command × Nat => x.2) s.commands.zipIdx).Nodup
  have : List.map (fun x : Command × Nat => x.2) s.commands.zipIdx = List.range' 0 s.commands.length := List.zipIdx_map_snd 0 s.commands
  rw [this]
  exact List.nodup_range'
theorem idx_snoc (s : Abs) (c : Command) : idx { s with commands := s.commands ++ [c] } = idx s ++ [(s.commands.length, c)] := by
  simp [idx, List.zipIdx_append]
def what (s : Abs) (n : Nat) : What := (s.commands[n]?.map (·.what)).getD (.void 0)
theorem what_mem {s : Abs} {x : Nat × Command} (h : x ∈ idx s) : what s x.1 = x.2.what := by
  unfold what; rw [idx_mem h]; rfl
theorem what_snoc {s : Abs} {c : Command} {n : Nat} (h : n < s.commands.length) : what { s with commands := s.commands ++ [c] } n = what s n := by
  unfold what
  rw [List.getElem?_append_left h]
theorem what_ok {s : Abs} (w : Wf s) {x : Nat × Command} (h : x ∈ idx s) : WhatOk x.1 (what s x.1) := by
  rw [what_mem h]; exact (w.ok _ _ (idx_mem h)).what
/-- those that aren't void, as known on a day -/
def validOn (s : Abs) (k : Nat) : List (Nat × Command) := (knownOn s k).filter fun x => !isVoid x.2.what && !(voids (knownOn s k)).contains x.1
def onDay (on : Nat) (c : Command) : Bool := decide (c.from_ ≤ on) && (c.till == 0 || decide (on < c.till))
/-- a law's commands, in their order -/
def ofLaw (s : Abs) (law k : Nat) : List (Nat × Command) := ((validOn s k).filter fun x => decide (x.2.law = law)).mergeSort ord
theorem valid_mem {s : Abs} {k : Nat} {x : Nat × Command} (h : x ∈ validOn s k) : x ∈ idx s ∧ isVoid x.2.what = false := by
  unfold validOn at h
  rw [List.mem_filter, knownOn_idx, List.mem_filter] at h
  refine ⟨h.1.1, ?_⟩
  have := h.2
  simp at this
  exact this.1
theorem valid_nd (s : Abs) (k : Nat) : ((validOn s k).map (·.1)).Nodup := by
  refine List.Nodup.sublist (List.Sublist.map _ ?_) (idx_nd s)
  unfold validOn
  rw [knownOn_idx]
  exact List.filter_sublist.trans List.filter_sublist
theorem ofLaw_mem {s : Abs} {law k : Nat} {x : Nat × Command} (h : x ∈ ofLaw s law k) : x ∈ validOn s k ∧ x.2.law = law := by
  unfold ofLaw at h
  rw [List.mem_mergeSort, List.mem_filter] at h
  exact ⟨h.1, by simpa using h.2⟩
theorem sort_strict {l : List (Nat × Command)} (hn : (l.map (·.1)).Nodup) : (l.mergeSort ord).Pairwise ordS := by
  have h1 : (l.mergeSort ord).Pairwise fun a b => ord a b = true := List.pairwise_mergeSort ord_trans ord_total _
  have h2 : ((l.mergeSort ord).map (·.1)).Nodup := ((List.mergeSort_perm l ord).map _).nodup_iff.mpr hn
  have h3 : (l.mergeSort ord).Pairwise fun a b => a.1 ≠ b.1 := List.pairwise_map.mp h2
  refine (h1.and h3).imp ?_
  intro a b h
  have h4 := h.1
  unfold ord at h4
  simp at h4
  unfold ordS
  have := h.2
  omega
theorem live_eq (s : Abs) (on k : Nat) : live s on k = (validOn s k).filter fun x => onDay on x.2 := by
  unfold live validOn
  rw [List.filter_filter]
  apply List.filter_congr
  intro x _
  unfold counts onDay
  cases isVoid x.2.what <;> cases (voids (knownOn s k)).contains x.1 <;> simp
theorem counted_law (s : Abs) (law on k : Nat) : (counted s on k).filter (fun x => decide (x.2.law = law)) = (ofLaw s law k).filter fun x => onDay on x.2 := by
  refine sorted_unique (r := ordS) (fun a b h1 h2 => by unfold ordS at *; omega) ?_ ?_ ?_
  · have p1 : ((counted s on k).filter (fun x => decide (x.2.law = law))).Perm ((live s on k).filter fun x => decide (x.2.law = law)) := (counted_perm s on k).filter _
    have p2 : ((ofLaw s law k).filter fun x => onDay on x.2).Perm (((validOn s k).filter fun x => decide (x.2.law = law)).filter fun x => onDay on x.2) := (List.mergeSort_perm _ _).filter _
    have e : (live s on k).filter (fun x => decide (x.2.law = law)) = ((validOn s k).filter fun x => decide (x.2.law = law)).filter fun x => onDay on x.2 := by
      rw [live_eq, List.filter_filter, List.filter_filter]
      apply List.filter_congr
      intro x _
      exact Bool.and_comm _ _
    rw [e] at p1
    exact p1.trans p2.symm
  · exact (counted_strict s on k).filter _
  · exact (sort_strict (List.Nodup.sublist (List.Sublist.map _ List.filter_sublist) (valid_nd s k))).filter _
def lawNs (s : Abs) (law on k : Nat) : List Nat := ((ofLaw s law k).filter fun x => onDay on x.2).map (·.1)
theorem taken_law (s : Abs) (law on k : Nat) : taken law (counted s on k) = (lawOf (what s) [] (lawNs s law on k), (idleOf (what s) [] (lawNs s law on k)).reverse) := by
  rw [taken_eq, taken_fold (W := what s) _ _ _ fun x hx => by
    have := counted_mem hx
    unfold what; rw [this.1]; rfl]
  rw [counted_law]
  simp [lawNs]
theorem stands_law (s : Abs) (law on k : Nat) : stands s law on k = lawOf (what s) [] (lawNs s law on k) := by
  unfold stands; rw [taken_law]
theorem lawNs_mem {s : Abs} {law on k n : Nat} (h : n ∈ lawNs s law on k) : ∃ x ∈ idx s, x.1 = n ∧ isVoid (what s n) = false := by
  unfold lawNs at h
  rw [List.mem_map] at h
  obtain ⟨x, hx, rfl⟩ := h
  have h1 := valid_mem (ofLaw_mem (List.mem_filter.mp hx).1).1
  exact ⟨x, h1.1, rfl, by rw [what_mem h1.1]; exact h1.2⟩
theorem ofLaw_len (s : Abs) (law k : Nat) : (ofLaw s law k).length ≤ s.commands.length := by
  unfold ofLaw
  rw [List.length_mergeSort]
  refine Nat.le_trans (List.length_filter_le _ _) ?_
  unfold validOn
  refine Nat.le_trans (List.length_filter_le _ _) ?_
  rw [knownOn_idx]
  refine Nat.le_trans (List.length_filter_le _ _) ?_
  rw [idx_len]; exact Nat.le_refl _
/-! ### the next day -/
/-- on two days between which none of the law's commands begins or is over all stays -/
theorem onDay_same {c : Command} {a b : Nat} (hab : a ≤ b) (h1 : ¬ (a < c.from_ ∧ c.from_ ≤ b)) (h2 : ¬ (a < c.till ∧ c.till ≤ b)) (ht : c.till = 0 ∨ c.from_ < c.till) : onDay a c = onDay b c := by
  unfold onDay
  rw [Bool.eq_iff_iff]
  simp
  omega
theorem lawNs_same {s : Abs} (w : Wf s) {law k a b : Nat} (hab : a ≤ b) (h : ∀ x ∈ ofLaw s law k, ¬ (a < x.2.from_ ∧ x.2.from_ ≤ b) ∧ ¬ (a < x.2.till ∧ x.2.till ≤ b)) : lawNs s law a k = lawNs s law b k := by
  unfold lawNs
  congr 1
  apply List.filter_congr
  intro x hx
  have h1 := h x hx
  have h2 := (w.ok _ _ (idx_mem (valid_mem (ofLaw_mem hx).1).1)).time
  unfold goodTime at h2
  simp at h2
  refine onDay_same hab h1.1 h1.2 ?_
  have := h2.2
  omega
theorem textOn_ns {s : Abs} {law k a b : Nat} {l : Bytes} (h : lawNs s law a k = lawNs s law b k) : textOn s law l a k = textOn s law l b k := by
  unfold textOn; rw [stands_law, stands_law, h]
/-- the first of a rising list -/
theorem find_first {p : Nat → Bool} : ∀ {l : List Nat}, l.Pairwise (· ≤ ·) → ∀ {d : Nat}, l.find? p = some d ↔ d ∈ l ∧ p d = true ∧ ∀ e ∈ l, p e = true → d ≤ e
  | [], _, d => by simp
  | x :: l, hs, d => by
    rw [List.pairwise_cons] at hs
    rw [List.find?_cons]
    cases hp : p x with
    | true =>
      simp only [Option.some.injEq]
      constructor
      · rintro rfl
        refine ⟨by simp, hp, fun e he _ => ?_⟩
        simp at he
        rcases he with rfl | he
        · exact Nat.le_refl _
        · exact hs.1 e he
      · rintro ⟨h1, h2, h3⟩
        have := h3 x (by simp) hp
        simp at h1
        rcases h1 with rfl | h1
        · rfl
        · have := hs.1 d h1; omega
    | false =>
      simp only
      rw [find_first hs.2]
      constructor
      · rintro ⟨h1, h2, h3⟩
        refine ⟨by simp [h1], h2, fun e he hpe => ?_⟩
        simp at he
        rcases he with rfl | he
        · rw [hp] at hpe; cases hpe
        · exact h3 e he hpe
      · rintro ⟨h1, h2, h3⟩
        simp at h1
        rcases h1 with rfl | h1
        · rw [hp] at h2; cases h2
        · exact ⟨h1, h2, fun e he hpe => h3 e (by simp [he]) hpe⟩
theorem turns_mem {s : Abs} {on k d : Nat} : d ∈ turns s on k ↔ on < d ∧ ∃ x ∈ knownOn s k, x.2.from_ = d ∨ x.2.till = d := by
  unfold turns
  rw [List.mem_mergeSort, List.mem_filter, List.mem_flatMap]
  simp
  constructor
  · rintro ⟨⟨a, b, h1, h2⟩, h3⟩
    exact ⟨h3, a, b, h1, by rcases h2 with h | h <;> simp [h]⟩
  · rintro ⟨h3, a, b, h1, h2⟩
    exact ⟨⟨a, b, h1, by rcases h2 with h | h <;> simp [h]⟩, h3⟩
theorem turns_sorted (s : Abs) (on k : Nat) : (turns s on k).Pairwise (· ≤ ·) := by
  unfold turns
  have := List.pairwise_mergeSort (le := fun a b : Nat => decide (a ≤ b)) (fun a b c => by simp; omega) (fun a b => by simp; omega) (((knownOn s k).flatMap fun x => [x.2.from_, x.2.till]).filter fun d => decide (on < d))
  exact this.imp fun h => by simpa using h
theorem next_days {s : Abs} (w : Wf s) {law on k : Nat} {l : Bytes} {ds : List Nat} (hs : ds.Pairwise (· ≤ ·)) (hm : ∀ d, d ∈ ds ↔ on < d ∧ ∃ x ∈ ofLaw s law k, x.2.from_ = d ∨ x.2.till = d) :
    Kcs5.next s law l on k = ds.find? fun d => textOn s law l d k != textOn s law l on k := by
  unfold Kcs5.next
  -- a day of the longer list has one of the shorter at or ahead of it
  have sub : ∀ d, d ∈ ds → d ∈ turns s on k := fun d hd => by
    rw [turns_mem]
    obtain ⟨h1, x, hx, h2⟩ := (hm d).mp hd
    refine ⟨h1, x, ?_, h2⟩
    have := (ofLaw_mem hx).1
    unfold validOn at this
    exact (List.mem_filter.mp this).1
  have back : ∀ d, on < d → (textOn s law l d k != textOn s law l on k) = true → ∃ e ∈ ds, e ≤ d ∧ (textOn s law l e k != textOn s law l on k) = true := by
    intro d hd hne
    -- the last one at or ahead of d
    have ex : (∃ e ∈ ds, e ≤ d ∧ ∀ f ∈ ds, f ≤ d → f ≤ e) ∨ ∀ e ∈ ds, d < e := by
      clear sub hm
      induction ds with
      | nil => right; simp
      | cons x r ih =>
        rw [List.pairwise_cons] at hs
        by_cases hx : x ≤ d
        · left
          rcases ih hs.2 with ⟨e, he, h1, h2⟩ | h
          · refine ⟨e, by simp [he], h1, fun f hf hfd => ?_⟩
            simp at hf
            rcases hf with rfl | hf
            · exact hs.1 e he
            · exact h2 f hf hfd
          · refine ⟨x, by simp, hx, fun f hf hfd => ?_⟩
            simp at hf
            rcases hf with rfl | hf
            · exact Nat.le_refl _
            · have := h f hf; omega
        · right
          intro e he
          simp at he
          rcases he with rfl | he
          · omega
          · have := hs.1 e he; omega
    rcases ex with ⟨e, he, h1, h2⟩ | h
    · refine ⟨e, he, h1, ?_⟩
      have : lawNs s law e k = lawNs s law d k := by
        refine lawNs_same w h1 fun x hx => ⟨fun ⟨a, b⟩ => ?_, fun ⟨a, b⟩ => ?_⟩
        · have he2 := (hm e).mp he
          have := h2 x.2.from_ ((hm _).mpr ⟨by omega, x, hx, .inl rfl⟩) b
          omega
        · have he2 := (hm e).mp he
          have := h2 x.2.till ((hm _).mpr ⟨by omega, x, hx, .inr rfl⟩) b
          omega
      rw [textOn_ns this]; exact hne
    · exfalso
      have : lawNs s law on k = lawNs s law d k := by
        refine lawNs_same w (by omega) fun x hx => ⟨fun ⟨a, b⟩ => ?_, fun ⟨a, b⟩ => ?_⟩
        · have := h x.2.from_ ((hm _).mpr ⟨a, x, hx, .inl rfl⟩); omega
        · have := h x.2.till ((hm _).mpr ⟨a, x, hx, .inr rfl⟩); omega
      rw [textOn_ns this] at hne
      simp at hne
  cases e : ds.find? fun d => textOn s law l d k != textOn s law l on k with
  | some d =>
    rw [find_first hs] at e
    rw [find_first (turns_sorted s on k)]
    refine ⟨sub d e.1, e.2.1, fun f hf hfp => ?_⟩
    obtain ⟨g, hg, h1, h2⟩ := back f (turns_mem.mp hf).1 hfp
    have := e.2.2 g hg h2
    omega
  | none =>
    rw [List.find?_eq_none] at e ⊢
    intro f hf hfp
    obtain ⟨g, hg, h1, h2⟩ := back f (turns_mem.mp hf).1 hfp
    exact e g hg h2
/-! ### what has no effect -/
theorem idle_eq (s : Abs) (on k : Nat) : idle s on k = ((List.range 64).flatMap fun law => (idleOf (what s) [] (lawNs s law on k)).reverse).mergeSort fun a b => decide (a ≤ b) := by
  unfold idle LAWS
  simp only [taken_law]
theorem sorted_eq {l m : List Nat} (h1 : l.Pairwise (· ≤ ·)) (h2 : m.Pairwise (· ≤ ·)) (p : l.Perm m) : l = m := by
  refine List.Perm.eq_of_pairwise (le := fun a b => a ≤ b) ?_ h1 h2 p
  intro a b _ _ h1 h2
  omega
end LD

namespace LD
open Kcs5
theorem lawNs_alt (s : Abs) (law on k : Nat) : ((((validOn s k).filter fun x => onDay on x.2).filter fun x => decide (x.2.law = law)).mergeSort ord).map (·.1) = lawNs s law on k := by
  unfold lawNs
  congr 1
  refine sorted_unique (r := ordS) (fun a b h1 h2 => by unfold ordS at *; omega) ?_ ?_ ?_
  · have p1 := List.mergeSort_perm (((validOn s k).filter fun x => onDay on x.2).filter fun x => decide (x.2.law = law)) ord
    have p2 : ((ofLaw s law k).filter fun x => onDay on x.2).Perm (((validOn s k).filter fun x => decide (x.2.law = law)).filter fun x => onDay on x.2) := (List.mergeSort_perm _ _).filter _
    have e : ((validOn s k).filter fun x => onDay on x.2).filter (fun x => decide (x.2.law = law)) = ((validOn s k).filter fun x => decide (x.2.law = law)).filter fun x => onDay on x.2 := by
      rw [List.filter_filter, List.filter_filter]
      apply List.filter_congr
      intro x _
      exact Bool.and_comm _ _
    rw [e] at p1 ⊢
    exact p1.trans p2.symm
  · exact sort_strict (List.Nodup.sublist (List.Sublist.map _ (List.filter_sublist.trans List.filter_sublist)) (valid_nd s k))
  · exact (sort_strict (List.Nodup.sublist (List.Sublist.map _ List.filter_sublist) (valid_nd s k))).filter _
theorem flatMap_zero {f : Nat → List Nat} (es : List Nat) : ∀ l : List Nat, (∀ n ∈ l, n ∉ es → f n = []) → l.flatMap f = (l.filter fun n => decide (n ∈ es)).flatMap f
  | [], _ => rfl
  | n :: l, h => by
    have ih := flatMap_zero es l fun m hm => h m (by simp [hm])
    rw [List.flatMap_cons, List.filter_cons]
    by_cases hn : n ∈ es
    · rw [if_pos (by simpa using hn), List.flatMap_cons, ih]
    · rw [if_neg (by simpa using hn), h n (by simp) hn, ih]; rfl
theorem range_flat {f : Nat → List Nat} {es : List Nat} (hn : es.Nodup) (hl : ∀ e ∈ es, e < 64) (h0 : ∀ n, n ∉ es → f n = []) : ((List.range 64).flatMap f).Perm (es.flatMap f) := by
  rw [flatMap_zero es _ fun n _ => h0 n]
  have : ((List.range 64).filter fun n => decide (n ∈ es)).Perm es := by
    rw [List.perm_ext_iff_of_nodup (List.Nodup.sublist List.filter_sublist List.nodup_range) hn]
    intro a
    rw [List.mem_filter]
    simp
    exact fun h => hl a h
  exact this.flatMap_right f
theorem flat_rev {f : Nat → List Nat} : ∀ es : List Nat, (es.flatMap fun n => (f n).reverse).Perm (es.flatMap f)
  | [] => List.Perm.refl _
  | e :: es => by
    rw [List.flatMap_cons, List.flatMap_cons]
    exact (List.reverse_perm _).append (flat_rev es)
theorem idle_of {s : Abs} {on k : Nat} {es : List Nat} {out : List Nat} (hn : es.Nodup) (hl : ∀ e ∈ es, e < 64) (h0 : ∀ n, n ∉ es → lawNs s n on k = []) (hp : out.Perm (es.flatMap fun law => idleOf (what s) [] (lawNs s law on k))) (hs : out.Pairwise (· ≤ ·)) : idle s on k = out := by
  rw [idle_eq]
  refine sorted_eq ?_ hs ?_
  · have := List.pairwise_mergeSort (le := fun a b : Nat => decide (a ≤ b)) (fun a b c => by simp; omega) (fun a b => by simp; omega) ((List.range 64).flatMap fun law => (idleOf (what s) [] (lawNs s law on k)).reverse)
    exact this.imp fun h => by simpa using h
  · refine (List.mergeSort_perm _ _).trans ((flat_rev _).trans ((range_flat hn hl fun n hn => ?_).trans hp.symm))
    rw [h0 n hn]
    rfl
end LD

namespace LD
open PySem PySem.Spec PyProof.Rows L2 LamX
/-! ### sorted(xs, key=lambda command: (command.begins, command.number)) -/
def keyLe (k : Addr → Int × Int) (a b : Addr) : Bool := decide ((k a).1 < (k b).1 ∨ ((k a).1 = (k b).1 ∧ (k a).2 ≤ (k b).2))
def KeyAt (K : PySem.W.Frag) (H : Hp) (k : Addr → Int × Int) (c : Addr) : Prop := ∃ C dx fs, H c = some (.ins C dx fs) ∧ Cls K C ∧ NoAttr K C "begins" ∧ NoAttr K C "number" ∧ fs.lookup ("begins" : Str) = some (.int (k c).1) ∧ fs.lookup ("number" : Str) = some (.int (k c).2)
def tSortKey (K : PySem.W.Frag) (P : Addr) (q : Str) (te : TE) : TE := fun σ H Q => te σ H fun x H1 => ∃ (a : Addr) (cs : List Addr) (k : Addr → Int × Int), x = .ref a ∧ SqL K H1 a (cs.map V.ref) ∧ (∀ c ∈ cs, KeyAt K H1 k c) ∧ TabS H1 P q ∧
  ∀ H2 p, ExtN H1 H2 → TabS H2 P q → H2 p = none → Q (.ref p) (upd H2 p (.lst ((cs.mergeSort (keyLe k)).map V.ref)))
theorem each_refs {its : List Value} {cs : List Addr} (r : Vals (cs.map V.ref) its) : PySem.W.EachIs (fun v (b : Addr) => v = Value.ref b) its cs := by
  induction cs generalizing its with
  | nil => cases r; exact .nil
  | cons c cs ih =>
    cases r with
    | cons r1 r2 => exact .cons r1 (ih r2)
theorem refs_each {its : List Value} {cs : List Addr} (r : PySem.W.EachIs (fun v (b : Addr) => v = Value.ref b) its cs) : Vals (cs.map V.ref) its := by
  induction r with
  | nil => exact .nil
  | cons h _ ih => exact .cons h ih
theorem key_body {prog : Program} {w : World} {A : Around} {E : Value → Shared → Prop} {K : PySem.W.Frag} {env : Env} {s : Shared} {m : Str → Option Value} {x dx C : Addr} {mA : Str → Option Value} {u1 u2 : Value} {q1 q2 q3 q4 q5 : Pos} {x1 : Nat} {Q : Value → Shared → Prop}
    (hk : env.scope.kind = .function) (hl : env.kindOf ("command" : Str) = some .local) (hn : s.heap.Ns env.locals m) (hm : m ("command" : Str) = some (.ref x)) (X : K.In s.heap) (O : ObjM s.heap x dx C mA) (cl : Cls K C)
    (n1 : NoAttr K C "begins") (n2 : NoAttr K C "number") (h1 : mA ("begins" : Str) = some u1) (h2 : mA ("number" : Str) = some u2) (k1 : PySem.W.handedIn u1 = true) (k2 : PySem.W.handedIn u2 = true)
    (q : ∀ tk, Q (.ref s.heap.objs.size) { s with heap := s.heap.push { cls := .type "tuple", data := .seq [u1, u2].toArray }, toks := tk }) :
    wpAny (model prog w) A (eval (.Tuple [.Attribute (.Name "command" q1) "begins" q2, .Attribute (.Name "command" q3) "number" q4] x1 q5) env) Q E s := by
  refine wpAny_Tuple_spliced ?_
  refine Calls.spliced_cons (attr_of rfl (wpAny_Name (wpAny_loadName_local hk hl hn hm ?_))) 
  refine get_map X O (cl.get _) cl.hd n1 h1 k1 ?_
  refine Calls.spliced_cons (attr_of rfl (wpAny_Name (wpAny_loadName_local hk hl hn hm ?_))) 
  refine get_map X O (cl.get _) cl.hd n2 h2 k2 ?_
  refine Calls.spliced_nil ⟨by show 2 ≤ sizeLine; decide, q _⟩
theorem key_turn {X : Cx} {pins : List (Addr × Obj)} {σ : L2.St} {H : Hp} {s : Shared} {f c' x : Addr} {q : Str} {params : Arguments} {scope : Scope} {pm ctv : Value} {clos : List (Str × Addr)} {q1 q2 q3 q4 q5 : Pos} {x1 : Nat} {k : Addr → Int × Int} {A : Around}
    (I : Inv X pins σ H s) (hA : A.depth < recursionLimit) (hf : s.heap.get? f = some (PySem.W.kla_obj "<lambda>" q params (.Tuple [.Attribute (.Name "command" q1) "begins" q2, .Attribute (.Name "command" q3) "number" q4] x1 q5) scope clos pm c' ctv))
    (hc : H c' = some (CodeO c' q)) (hx : KeyAt X.K H k x) (hsk : scope.kind = .function) (hsn : scope.names = [(("command" : Str), .local)]) (hco : scope.isCoroutine = false) (hgen : scope.isGenerator = false)
    (hbind : bindArgs (PySem.W.kla_fn "<lambda>" q params (.Tuple [.Attribute (.Name "command" q1) "begins" q2, .Attribute (.Name "command" q3) "number" q4] x1 q5) scope clos pm (.ref c') ctv) ⟨[.ref x], []⟩ = pure [(("command" : Str), .ref x)])
    {h : Heap} {tk : Nat} (hk : ∀ b o, s.heap.get? b = some o → h.get? b = some o) :
    wpAny (model X.prog X.w) A (call (.ref f) [.ref x]) (PySem.W.KeyPure (.tuple [.int (k x).1, .int (k x).2]) { s with heap := h, toks := tk }) (fun _ _ => False) { s with heap := h, toks := tk } := by
  obtain ⟨C, dx, fs, ex, cl, n1, n2, l1, l2⟩ := hx
  obtain ⟨mA, O, r, _, _, _⟩ := ins_get I.hok ex
  obtain ⟨u1, hu1, ru1⟩ := RelO.some_of (v := .int (k x).1) (o := mA ("begins" : Str)) (by rw [← l1]; exact r _)
  obtain ⟨u2, hu2, ru2⟩ := RelO.some_of (v := .int (k x).2) (o := mA ("number" : Str)) (by rw [← l2]; exact r _)
  obtain ⟨⟨oc, vs, t, hoc, hd, hv⟩, _, _⟩ := I.hok c' _ hc
  refine wpAny_call ?_
  refine PySem.W.kla_callFunE hA (hk _ _ hf) rfl hco hgen rfl ⟨c', oc, vs, t, rfl, hk _ _ hoc, hd, hv⟩ ?_
  rw [hbind]
  have NL : h.NoLimit := I.nolimit.keeps hk
  refine wpAny_pure (wpAny_newFunctionEnv (fun y hy => ?_) (fun y hy => ?_) (fun h₁ hns hsb => ⟨NL.fresh _ hsb, ?_⟩) hsk)
  · have hy : y ∈ scope.names := hy
    rw [hsn] at hy; simp at hy; subst hy; intro z; cases z
  · simp at hy; subst hy
    show scope.names.lookup ("command" : Str) = some .local
    rw [hsn]; rfl
  have kp : ∀ b o, h.get? b = some o → h₁.get? b = some o := fun b o e => hsb.extBut b o (Nat.ne_of_lt (Heap.lt_size e)) (Heap.get?_push_of_some _ e)
  have kp2 : ∀ b o, s.heap.get? b = some o → h₁.get? b = some o := fun b o e => kp _ _ (hk _ _ e)
  refine PySem.W.kla_codeExpr ?_
  have k1 := handed_of ru1
  have k2 := handed_of ru2
  refine key_body (K := X.K) (m := fun y => ([(("command" : Str), Value.ref x)] : List (Str × Value)).reverse.lookup y) (x := x) (dx := dx) (C := C) (mA := mA) (u1 := u1) (u2 := u2) hsk ?_ hns rfl (I.kIn.keeps kp2) ⟨kp2 _ _ O.obj, ?_, O.ne⟩ cl n1 n2 hu1 hu2 k1 k2 fun tk' => ?_
  · show scope.names.lookup ("command" : Str) = some .local
    rw [hsn]; rfl
  · exact O.ns.keeps kp2
  · obtain ⟨t1, rfl⟩ : ∃ t, u1 = Value.int (k x).1 t := ru1
    obtain ⟨t2, rfl⟩ : ∃ t, u2 = Value.int (k x).2 t := ru2
    refine ⟨_, _, rfl, fun b o e => Heap.get?_push_of_some _ (kp _ _ e), ?_⟩
    exact .tuple (Heap.get?_push_size _ rfl) rfl rfl (.cons (as := []) (bs := []) (.int _ _) (.cons (as := []) (bs := []) (.int _ _) .nil))
theorem pe_sortKey {X : Cx} {q : Str} {c P : Addr} {e : Expr} {te : TE} {params : Arguments} {scope : Scope} {q1 q2 q3 q4 q5 p lpos kpos pos : Pos} {x1 k : Nat} (hm : X.mg "sorted" = none) (TB : TabB X.base X.mg c P) (hcode : X.env.code = .ref c) (hr : Room (k + 3) X.A) (ha : PE X e te)
    (hq : X.env.qual ++ "<lambda>" = q := by rfl) (hsk : scope.kind = .function := by rfl) (hsn : scope.names = [(("command" : Str), .local)] := by rfl) (hco : scope.isCoroutine = false := by rfl) (hgen : scope.isGenerator = false := by rfl) (hdef : defaultsOf params X.env = ([], []) := by rfl) (hcl : cloFrom X.env.cells scope.names [] = [] := by rfl)
    (hbind : ∀ (q : Str) (x : Value) (pm c' ctv : Value), bindArgs (PySem.W.kla_fn "<lambda>" q params (.Tuple [.Attribute (.Name "command" q1) "begins" q2, .Attribute (.Name "command" q3) "number" q4] x1 q5) scope [] pm c' ctv) ⟨[x], []⟩ = pure [(("command" : Str), x)] := by intros; rfl)
    (hg : Gl X "sorted" := by rfl)
    (hps : starEach [e] X.env = [(false, eval e X.env)] := by rfl) :
    PE X (.Call (.Name "sorted" p) [e] [⟨some "key", .Lambda params (.Tuple [.Attribute (.Name "command" q1) "begins" q2, .Attribute (.Name "command" q3) "number" q4] x1 q5) scope lpos, kpos⟩] pos) (tSortKey X.K P q te) := by
  subst hq
  refine ⟨fun pins s σ H Q I h => ?_⟩
  refine wpAny_Call_Name_kw (ld_blt I hg hm (u := .builtin "sorted") (by decide +kernel) ?_ (by decide) (by decide))
  refine PyProof.Rows.callWith_kw ?_ (by rw [hps]; rfl) (by rw [hps]; rfl) (by rfl) (by rfl)
  rw [hps]
  refine Calls.spliced_cons (thn (ha.run pins s σ H _ I h) fun u s1 ⟨x, H1, I1, r1, a, cs, kf, ex, hS, hK, hT, q⟩ => ?_)
  subst ex
  obtain rfl : u = Value.ref a := r1
  refine Calls.spliced_nil ?_
  show wpAny _ _ (evalAll ((do let v ← eval (.Lambda params (.Tuple [.Attribute (.Name "command" q1) "begins" q2, .Attribute (.Name "command" q3) "number" q4] x1 q5) scope lpos) X.env; standAt pos; pure v) :: [])) _ _ s1
  refine wpAny_evalAll_cons (wpAny_bind ?_)
  have hTs : Tabs [(P, X.env.qual ++ "<lambda>")] H1 := fun p hp => by simp at hp; subst hp; exact hT
  refine lam_make2 (T := [(P, X.env.qual ++ "<lambda>")]) I1 TB hcode (by simp) (fun p hp _ => by simp at hp; rw [hp]) hTs hdef (fun y hy e => ?_) fun f c' pm ctv H2 s2 I2 eN T2 hf hfn hfr hco' => ?_
  · rw [hsn] at hy; simp at hy; subst hy; cases e
  rw [hcl] at hf
  refine wpAny_bind (wpAny_standAt (wpAny_pure (wpAny_evalAll_nil ?_)))
  show wpAny _ _ (call (.builtin "sorted") [.ref a] [(Str.ofString "key", .ref f)]) _ _ s2
  have hS2 : SqL X.K H2 a (cs.map V.ref) := by
    rcases hS with (z | ⟨o, z⟩) | z
    · exact .inl (.inl (eN _ _ z (fun _ w => by cases w)))
    · exact .inl (.inr ⟨o, eN _ _ z (fun _ w => by cases w)⟩)
    · exact .inr z
  have hK2 : ∀ c ∈ cs, KeyAt X.K H2 kf c := fun c hc => by
    obtain ⟨C, dx, fs, z, w⟩ := hK c hc
    exact ⟨C, dx, fs, eN _ _ z (fun _ w => by cases w), w⟩
  obtain ⟨its, rv, hl, hz⟩ := I2.list hS2
  have hu : ∀ x, x ∈ cs → X.A.units + 2 + (PyData.tuple [.int (kf x).1, .int (kf x).2]).depth < cLine := fun x _ => by
    have := hr.un
    have e : (PyData.tuple [.int (kf x).1, .int (kf x).2]).depth = 1 := by simp [PyData.depth, PyData.depthAll]
    rw [e]; omega
  refine PySem.W.sorted_key_data (β := Addr) (bs := cs) (b := false) (R := fun v b => v = Value.ref b) (fun x => .tuple [.int (kf x).1, .int (kf x).2]) hl.isList (each_refs rv) ?_ ?_ (by rw [List.length_map] at hz; exact hz) hu (PyProof.Rows.ksk_s1 _ _) (fun _ => PyProof.Rows.ksk_l1 _ _) (fun a => PyProof.Rows.ksk_t1 f a) (fun v x ev hx h tk hk => ?_) fun out cc h' tk kp fr hout hlen ho => ?_
  · exact PySem.W.AllAlike.of fun b b' => by simp [PySem.W.alike, PySem.W.alikeAll]
  · exact PySem.W.Sortable.tuples fun b => ⟨_, _, rfl⟩
  · subst ev
    refine key_turn I2 ?_ hf hco' (hK2 x hx) hsk hsn hco hgen (hbind _ _ _ _ _) hk
    exact (hr.in1.in1).depth
  · have e2 : (fun p q => decide ((kf p).1 < (kf q).1 ∨ ((kf p).1 = (kf q).1 ∧ (kf p).2 ≤ (kf q).2))) = keyLe kf := rfl
    rw [PySem.W.dataLe_ii (fun x => (kf x).1) (fun x => (kf x).2), e2] at ho
    have rv2 := refs_each ho
    have hn : H2 (s2.heap.objs.size + 1) = none := I2.hok.fresh (Nat.le_succ _)
    refine ⟨.ref _, upd H2 (s2.heap.objs.size + 1) (.lst ((cs.mergeSort (keyLe kf)).map V.ref)), I2.laid (t' := tk) kp (Nat.le_succ _) ⟨?_, out, cc, rv2, hout⟩, rfl, q H2 _ eN (T2 (P, X.env.qual ++ "<lambda>") (by simp)) hn⟩
    rw [List.length_map, List.length_mergeSort]
    rw [List.length_map] at hz
    exact hz
end LD

namespace LD
open PySem PySem.Spec PyProof.Rows L2
def oAdd : R2 := rI0 fun i j => .int (i + j)
def oSub : R2 := rI0 fun i j => .int (i - j)
def oLt : R2 := rI0 fun i j => .bl (decide (i < j))
def oLe : R2 := rI0 fun i j => .bl (decide (i ≤ j))
def oGt : R2 := rI0 fun i j => .bl (decide (j < i))
def oGe : R2 := rI0 fun i j => .bl (decide (j ≤ i))
def oNeg : V → Hp → VK → Prop := rU fun i => .int (-i)
def oLen (K : PySem.W.Frag) : List V → Hp → VK → Prop := fun xs H Q => ∃ p ys, xs = [.ref p] ∧ (SqL K H p ys ∨ SqT K H p ys) ∧ Q (.int ys.length) H
theorem hu65 {k : Nat} {A : Around} (hr : Room k A) : A.units + 65 < cLine := by have := hr.un; omega
def top (i : Nat) : Stmt := PySem.Challenge.pw_lawdays_s01_answers.main.body.getD i (.Pass ⟨0, 0, 0, 0⟩)
abbrev s_is_day : Stmt := top 9
abbrev s_is_law : Stmt := top 10
abbrev s_is_span : Stmt := top 11
abbrev s_is_text_byte : Stmt := top 12
abbrev s_is_label_byte : Stmt := top 13
abbrev s_is_label : Stmt := top 14
abbrev s_is_text : Stmt := top 15
abbrev s_Command_init : Stmt := inClass (top 24) 0
abbrev s_is_sound : Stmt := top 25
abbrev s_is_place : Stmt := top 26
abbrev s_is_old : Stmt := top 27
abbrev s_Section_init : Stmt := inClass (top 29) 0
abbrev s_new_section : Stmt := top 30
abbrev s_place_of : Stmt := top 31
abbrev s_places_in : Stmt := top 32
abbrev s_exchange : Stmt := top 33
abbrev s_follow_label : Stmt := top 34
abbrev s_references_in : Stmt := top 35
abbrev s_effect_of : Stmt := top 39
abbrev s_put_section : Stmt := top 40
abbrev s_set_section : Stmt := top 41
abbrev s_change_word : Stmt := top 42
abbrev s_change_label : Stmt := top 43
abbrev s_is_short : Stmt := top 44
abbrev s_Step_init : Stmt := inClass (top 46) 0
abbrev s_Course_init : Stmt := inClass (top 47) 0
abbrev s_Course_take_all : Stmt := inClass (top 47) 1
abbrev s_Course_keep_same : Stmt := inClass (top 47) 2
abbrev s_Course_take_one : Stmt := inClass (top 47) 3
abbrev s_Course_sections_now : Stmt := inClass (top 47) 4
abbrev s_Course_without_effect : Stmt := inClass (top 47) 5
abbrev s_Record_init : Stmt := inClass (top 54) 0
abbrev s_Record_add_act : Stmt := inClass (top 54) 1
abbrev s_Record_add_command : Stmt := inClass (top 54) 2
abbrev s_Record_add_void : Stmt := inClass (top 54) 3
abbrev s_Record_keep : Stmt := inClass (top 54) 4
abbrev s_Record_last_act : Stmt := inClass (top 54) 5
abbrev s_Record_is_before_last_act : Stmt := inClass (top 54) 6
abbrev s_Record_known_on : Stmt := inClass (top 54) 7
abbrev s_Record_valid_on : Stmt := inClass (top 54) 8
abbrev s_Laws_init : Stmt := inClass (top 56) 0
abbrev s_Laws_begin : Stmt := inClass (top 56) 1
abbrev s_Laws_course_of : Stmt := inClass (top 56) 2
abbrev s_Laws_commands_of : Stmt := inClass (top 56) 3
abbrev s_Laws_sections_by : Stmt := inClass (top 56) 4
abbrev s_Laws_sections_of : Stmt := inClass (top 56) 5
abbrev s_Laws_without_effect : Stmt := inClass (top 56) 6
abbrev s_in_order : Stmt := top 57
abbrev s_counting_on : Stmt := top 58
abbrev s_days_above : Stmt := top 59
abbrev s_is_askable : Stmt := top 65
abbrev s_tell_read : Stmt := top 66
abbrev s_tell_labels : Stmt := top 67
abbrev s_tell_origin : Stmt := top 68
abbrev s_tell_idle : Stmt := top 69
abbrev s_tell_broken : Stmt := top 70
abbrev s_tell_next : Stmt := top 71
abbrev s_find_section : Stmt := top 72
abbrev s_find_text : Stmt := top 73
abbrev s_with_size : Stmt := top 74
abbrev s_rows_of : Stmt := top 75
abbrev s_Reader_init : Stmt := inClass (top 77) 0
abbrev s_Reader_has_more : Stmt := inClass (top 77) 1
abbrev s_Reader_next_number : Stmt := inClass (top 77) 2
abbrev s_Reader_next_row : Stmt := inClass (top 77) 3
abbrev s_answers : Stmt := top 87
abbrev s_answer_call : Stmt := top 88
abbrev s_answer_of_law : Stmt := top 89
abbrev s_read_command : Stmt := top 90
theorem sc_is_day : FnScope ["day"] ["day"] (defScope s_is_day) := ⟨rfl, rfl, rfl, by decide +kernel, rfl, by decide +kernel, by decide +kernel⟩
theorem sc_is_law : FnScope ["law"] ["law"] (defScope s_is_law) := ⟨rfl, rfl, rfl, by decide +kernel, rfl, by decide +kernel, by decide +kernel⟩
theorem sc_is_span : FnScope ["begins", "till"] ["begins", "till"] (defScope s_is_span) := ⟨rfl, rfl, rfl, by decide +kernel, rfl, by decide +kernel, by decide +kernel⟩
theorem sc_is_text_byte : FnScope ["byte"] ["byte"] (defScope s_is_text_byte) := ⟨rfl, rfl, rfl, by decide +kernel, rfl, by decide +kernel, by decide +kernel⟩
theorem sc_is_label_byte : FnScope ["byte"] ["byte"] (defScope s_is_label_byte) := ⟨rfl, rfl, rfl, by decide +kernel, rfl, by decide +kernel, by decide +kernel⟩
theorem sc_is_label : FnScope ["row", "byte"] ["row"] (defScope s_is_label) := ⟨rfl, rfl, rfl, by decide +kernel, rfl, by decide +kernel, by decide +kernel⟩
theorem sc_is_text : FnScope ["row", "byte"] ["row"] (defScope s_is_text) := ⟨rfl, rfl, rfl, by decide +kernel, rfl, by decide +kernel, by decide +kernel⟩
theorem sc_Command_init : FnScope ["self", "kind"] ["self", "kind"] (defScope s_Command_init) := ⟨rfl, rfl, rfl, by decide +kernel, rfl, by decide +kernel, by decide +kernel⟩
theorem sc_is_sound : FnScope ["command"] ["command"] (defScope s_is_sound) := ⟨rfl, rfl, rfl, by decide +kernel, rfl, by decide +kernel, by decide +kernel⟩
theorem sc_is_place : FnScope ["after"] ["after"] (defScope s_is_place) := ⟨rfl, rfl, rfl, by decide +kernel, rfl, by decide +kernel, by decide +kernel⟩
theorem sc_is_old : FnScope ["old"] ["old"] (defScope s_is_old) := ⟨rfl, rfl, rfl, by decide +kernel, rfl, by decide +kernel, by decide +kernel⟩
theorem sc_Section_init : FnScope ["self", "label", "text", "owners"] ["self", "label", "text", "owners"] (defScope s_Section_init) := ⟨rfl, rfl, rfl, by decide +kernel, rfl, by decide +kernel, by decide +kernel⟩
theorem sc_new_section : FnScope ["label", "text", "owner"] ["label", "text", "owner"] (defScope s_new_section) := ⟨rfl, rfl, rfl, by decide +kernel, rfl, by decide +kernel, by decide +kernel⟩
theorem sc_place_of : FnScope ["sections", "label", "place", "section"] ["sections", "label"] (defScope s_place_of) := ⟨rfl, rfl, rfl, by decide +kernel, rfl, by decide +kernel, by decide +kernel⟩
theorem sc_places_in : FnScope ["text", "row", "size", "found", "place"] ["text", "row"] (defScope s_places_in) := ⟨rfl, rfl, rfl, by decide +kernel, rfl, by decide +kernel, by decide +kernel⟩
theorem sc_exchange : FnScope ["section", "places", "size", "row", "owner", "text", "owners", "done", "place"] ["section", "places", "size", "row", "owner"] (defScope s_exchange) := ⟨rfl, rfl, rfl, by decide +kernel, rfl, by decide +kernel, by decide +kernel⟩
theorem sc_follow_label : FnScope ["section", "label", "to", "owner", "places", "place"] ["section", "label", "to", "owner"] (defScope s_follow_label) := ⟨rfl, rfl, rfl, by decide +kernel, rfl, by decide +kernel, by decide +kernel⟩
theorem sc_references_in : FnScope ["text", "found", "opened", "place", "byte"] ["text"] (defScope s_references_in) := ⟨rfl, rfl, rfl, by decide +kernel, rfl, by decide +kernel, by decide +kernel⟩
theorem sc_effect_of : FnScope ["command", "sections", "place"] ["command", "sections"] (defScope s_effect_of) := ⟨rfl, rfl, rfl, by decide +kernel, rfl, by decide +kernel, by decide +kernel⟩
theorem sc_put_section : FnScope ["command", "sections", "section", "place"] ["command", "sections"] (defScope s_put_section) := ⟨rfl, rfl, rfl, by decide +kernel, rfl, by decide +kernel, by decide +kernel⟩
theorem sc_set_section : FnScope ["sections", "place", "section"] ["sections", "place", "section"] (defScope s_set_section) := ⟨rfl, rfl, rfl, by decide +kernel, rfl, by decide +kernel, by decide +kernel⟩
theorem sc_change_word : FnScope ["command", "sections", "place", "section", "places", "changed"] ["command", "sections", "place"] (defScope s_change_word) := ⟨rfl, rfl, rfl, by decide +kernel, rfl, by decide +kernel, by decide +kernel⟩
theorem sc_change_label : FnScope ["command", "sections", "place", "section", "named", "followed", "one"] ["command", "sections", "place"] (defScope s_change_label) := ⟨rfl, rfl, rfl, by decide +kernel, rfl, by decide +kernel, by decide +kernel⟩
theorem sc_is_short : FnScope ["section"] ["section"] (defScope s_is_short) := ⟨rfl, rfl, rfl, by decide +kernel, rfl, by decide +kernel, by decide +kernel⟩
theorem sc_Step_init : FnScope ["self", "number", "has_effect", "sections"] ["self", "number", "has_effect", "sections"] (defScope s_Step_init) := ⟨rfl, rfl, rfl, by decide +kernel, rfl, by decide +kernel, by decide +kernel⟩
theorem sc_Course_init : FnScope ["self"] ["self"] (defScope s_Course_init) := ⟨rfl, rfl, rfl, by decide +kernel, rfl, by decide +kernel, by decide +kernel⟩
theorem sc_Course_take_all : FnScope ["self", "commands", "command"] ["self", "commands"] (defScope s_Course_take_all) := ⟨rfl, rfl, rfl, by decide +kernel, rfl, by decide +kernel, by decide +kernel⟩
theorem sc_Course_keep_same : FnScope ["self", "commands", "numbers", "kept", "place", "step", "command"] ["self", "commands"] (defScope s_Course_keep_same) := ⟨rfl, rfl, rfl, by decide +kernel, rfl, by decide +kernel, by decide +kernel⟩
theorem sc_Course_take_one : FnScope ["self", "command", "before", "behind"] ["self", "command"] (defScope s_Course_take_one) := ⟨rfl, rfl, rfl, by decide +kernel, rfl, by decide +kernel, by decide +kernel⟩
theorem sc_Course_sections_now : FnScope ["self"] ["self"] (defScope s_Course_sections_now) := ⟨rfl, rfl, rfl, by decide +kernel, rfl, by decide +kernel, by decide +kernel⟩
theorem sc_Course_without_effect : FnScope ["self", "step"] ["self"] (defScope s_Course_without_effect) := ⟨rfl, rfl, rfl, by decide +kernel, rfl, by decide +kernel, by decide +kernel⟩
theorem sc_Record_init : FnScope ["self"] ["self"] (defScope s_Record_init) := ⟨rfl, rfl, rfl, by decide +kernel, rfl, by decide +kernel, by decide +kernel⟩
theorem sc_Record_add_act : FnScope ["self", "day"] ["self", "day"] (defScope s_Record_add_act) := ⟨rfl, rfl, rfl, by decide +kernel, rfl, by decide +kernel, by decide +kernel⟩
theorem sc_Record_add_command : FnScope ["self", "command"] ["self", "command"] (defScope s_Record_add_command) := ⟨rfl, rfl, rfl, by decide +kernel, rfl, by decide +kernel, by decide +kernel⟩
theorem sc_Record_add_void : FnScope ["self", "target", "command"] ["self", "target"] (defScope s_Record_add_void) := ⟨rfl, rfl, rfl, by decide +kernel, rfl, by decide +kernel, by decide +kernel⟩
theorem sc_Record_keep : FnScope ["self", "command"] ["self", "command"] (defScope s_Record_keep) := ⟨rfl, rfl, rfl, by decide +kernel, rfl, by decide +kernel, by decide +kernel⟩
theorem sc_Record_last_act : FnScope ["self"] ["self"] (defScope s_Record_last_act) := ⟨rfl, rfl, rfl, by decide +kernel, rfl, by decide +kernel, by decide +kernel⟩
theorem sc_Record_is_before_last_act : FnScope ["self", "day"] ["self", "day"] (defScope s_Record_is_before_last_act) := ⟨rfl, rfl, rfl, by decide +kernel, rfl, by decide +kernel, by decide +kernel⟩
theorem sc_Record_known_on : FnScope ["self", "day", "command"] ["self", "day"] (defScope s_Record_known_on) := ⟨rfl, rfl, rfl, by decide +kernel, rfl, by decide +kernel, by decide +kernel⟩
theorem sc_Record_valid_on : FnScope ["self", "day", "known", "void", "command"] ["self", "day"] (defScope s_Record_valid_on) := ⟨rfl, rfl, rfl, by decide +kernel, rfl, by decide +kernel, by decide +kernel⟩
theorem sc_Laws_init : FnScope ["self"] ["self"] (defScope s_Laws_init) := ⟨rfl, rfl, rfl, by decide +kernel, rfl, by decide +kernel, by decide +kernel⟩
theorem sc_Laws_begin : FnScope ["self"] ["self"] (defScope s_Laws_begin) := ⟨rfl, rfl, rfl, by decide +kernel, rfl, by decide +kernel, by decide +kernel⟩
theorem sc_Laws_course_of : FnScope ["self", "law"] ["self", "law"] (defScope s_Laws_course_of) := ⟨rfl, rfl, rfl, by decide +kernel, rfl, by decide +kernel, by decide +kernel⟩
theorem sc_Laws_commands_of : FnScope ["self", "law", "known", "command"] ["self", "law", "known"] (defScope s_Laws_commands_of) := ⟨rfl, rfl, rfl, by decide +kernel, rfl, by decide +kernel, by decide +kernel⟩
theorem sc_Laws_sections_by : FnScope ["self", "law", "commands", "on"] ["self", "law", "commands", "on"] (defScope s_Laws_sections_by) := ⟨rfl, rfl, rfl, by decide +kernel, rfl, by decide +kernel, by decide +kernel⟩
theorem sc_Laws_sections_of : FnScope ["self", "law", "on", "known"] ["self", "law", "on", "known"] (defScope s_Laws_sections_of) := ⟨rfl, rfl, rfl, by decide +kernel, rfl, by decide +kernel, by decide +kernel⟩
theorem sc_Laws_without_effect : FnScope ["self", "on", "known", "found", "by_law", "command", "law", "course"] ["self", "on", "known"] (defScope s_Laws_without_effect) := ⟨rfl, rfl, rfl, by decide +kernel, rfl, by decide +kernel, by decide +kernel⟩
theorem sc_in_order : FnScope ["commands"] ["commands"] (defScope s_in_order) := ⟨rfl, rfl, rfl, by decide +kernel, rfl, by decide +kernel, by decide +kernel⟩
theorem sc_counting_on : FnScope ["commands", "day", "command"] ["commands", "day"] (defScope s_counting_on) := ⟨rfl, rfl, rfl, by decide +kernel, rfl, by decide +kernel, by decide +kernel⟩
theorem sc_days_above : FnScope ["commands", "on", "days", "command", "day"] ["commands", "on"] (defScope s_days_above) := ⟨rfl, rfl, rfl, by decide +kernel, rfl, by decide +kernel, by decide +kernel⟩
theorem sc_is_askable : FnScope ["law", "on", "known"] ["law", "on", "known"] (defScope s_is_askable) := ⟨rfl, rfl, rfl, by decide +kernel, rfl, by decide +kernel, by decide +kernel⟩
theorem sc_tell_read : FnScope ["laws", "law", "label", "on", "known", "section"] ["laws", "law", "label", "on", "known"] (defScope s_tell_read) := ⟨rfl, rfl, rfl, by decide +kernel, rfl, by decide +kernel, by decide +kernel⟩
theorem sc_tell_labels : FnScope ["laws", "law", "on", "known", "sections", "told", "section"] ["laws", "law", "on", "known"] (defScope s_tell_labels) := ⟨rfl, rfl, rfl, by decide +kernel, rfl, by decide +kernel, by decide +kernel⟩
theorem sc_tell_origin : FnScope ["laws", "law", "label", "on", "known", "section"] ["laws", "law", "label", "on", "known"] (defScope s_tell_origin) := ⟨rfl, rfl, rfl, by decide +kernel, rfl, by decide +kernel, by decide +kernel⟩
theorem sc_tell_idle : FnScope ["laws", "on", "known"] ["laws", "on", "known"] (defScope s_tell_idle) := ⟨rfl, rfl, rfl, by decide +kernel, rfl, by decide +kernel, by decide +kernel⟩
theorem sc_tell_broken : FnScope ["laws", "law", "on", "known", "k", "sections", "there", "passed", "section", "label"] ["laws", "law", "on", "known", "k"] (defScope s_tell_broken) := ⟨rfl, rfl, rfl, by decide +kernel, rfl, by decide +kernel, by decide +kernel⟩
theorem sc_tell_next : FnScope ["laws", "law", "label", "on", "known", "commands", "text", "day"] ["laws", "law", "label", "on", "known"] (defScope s_tell_next) := ⟨rfl, rfl, rfl, by decide +kernel, rfl, by decide +kernel, by decide +kernel⟩
theorem sc_find_section : FnScope ["sections", "label", "place"] ["sections", "label"] (defScope s_find_section) := ⟨rfl, rfl, rfl, by decide +kernel, rfl, by decide +kernel, by decide +kernel⟩
theorem sc_find_text : FnScope ["sections", "label", "section"] ["sections", "label"] (defScope s_find_text) := ⟨rfl, rfl, rfl, by decide +kernel, rfl, by decide +kernel, by decide +kernel⟩
theorem sc_with_size : FnScope ["row"] ["row"] (defScope s_with_size) := ⟨rfl, rfl, rfl, by decide +kernel, rfl, by decide +kernel, by decide +kernel⟩
theorem sc_rows_of : FnScope ["owners", "rows", "size", "place", "owner"] ["owners"] (defScope s_rows_of) := ⟨rfl, rfl, rfl, by decide +kernel, rfl, by decide +kernel, by decide +kernel⟩
theorem sc_Reader_init : FnScope ["self", "numbers"] ["self", "numbers"] (defScope s_Reader_init) := ⟨rfl, rfl, rfl, by decide +kernel, rfl, by decide +kernel, by decide +kernel⟩
theorem sc_Reader_has_more : FnScope ["self"] ["self"] (defScope s_Reader_has_more) := ⟨rfl, rfl, rfl, by decide +kernel, rfl, by decide +kernel, by decide +kernel⟩
theorem sc_Reader_next_number : FnScope ["self", "number"] ["self"] (defScope s_Reader_next_number) := ⟨rfl, rfl, rfl, by decide +kernel, rfl, by decide +kernel, by decide +kernel⟩
theorem sc_Reader_next_row : FnScope ["self", "size", "row"] ["self"] (defScope s_Reader_next_row) := ⟨rfl, rfl, rfl, by decide +kernel, rfl, by decide +kernel, by decide +kernel⟩
theorem sc_answers : FnScope ["calls", "reader", "laws", "told", "answer"] ["calls"] (defScope s_answers) := ⟨rfl, rfl, rfl, by decide +kernel, rfl, by decide +kernel, by decide +kernel⟩
theorem sc_answer_call : FnScope ["laws", "reader", "call", "on", "known"] ["laws", "reader"] (defScope s_answer_call) := ⟨rfl, rfl, rfl, by decide +kernel, rfl, by decide +kernel, by decide +kernel⟩
theorem sc_answer_of_law : FnScope ["laws", "call", "reader", "law", "on", "known", "label"] ["laws", "call", "reader"] (defScope s_answer_of_law) := ⟨rfl, rfl, rfl, by decide +kernel, rfl, by decide +kernel, by decide +kernel⟩
theorem sc_read_command : FnScope ["kind", "reader", "command"] ["kind", "reader"] (defScope s_read_command) := ⟨rfl, rfl, rfl, by decide +kernel, rfl, by decide +kernel, by decide +kernel⟩
structure Ad where
  c_Command : Addr
  c_Section : Addr
  c_Step : Addr
  c_Course : Addr
  c_Record : Addr
  c_Laws : Addr
  c_Reader : Addr
  f_is_day : Addr
  d_is_day : FuncData
  f_is_law : Addr
  d_is_law : FuncData
  f_is_span : Addr
  d_is_span : FuncData
  f_is_text_byte : Addr
  d_is_text_byte : FuncData
  f_is_label_byte : Addr
  d_is_label_byte : FuncData
  f_is_label : Addr
  d_is_label : FuncData
  f_is_text : Addr
  d_is_text : FuncData
  f_Command_init : Addr
  d_Command_init : FuncData
  f_is_sound : Addr
  d_is_sound : FuncData
  f_is_place : Addr
  d_is_place : FuncData
  f_is_old : Addr
  d_is_old : FuncData
  f_Section_init : Addr
  d_Section_init : FuncData
  f_new_section : Addr
  d_new_section : FuncData
  f_place_of : Addr
  d_place_of : FuncData
  f_places_in : Addr
  d_places_in : FuncData
  f_exchange : Addr
  d_exchange : FuncData
  f_follow_label : Addr
  d_follow_label : FuncData
  f_references_in : Addr
  d_references_in : FuncData
  f_effect_of : Addr
  d_effect_of : FuncData
  f_put_section : Addr
  d_put_section : FuncData
  f_set_section : Addr
  d_set_section : FuncData
  f_change_word : Addr
  d_change_word : FuncData
  f_change_label : Addr
  d_change_label : FuncData
  f_is_short : Addr
  d_is_short : FuncData
  f_Step_init : Addr
  d_Step_init : FuncData
  f_Course_init : Addr
  d_Course_init : FuncData
  f_Course_take_all : Addr
  d_Course_take_all : FuncData
  f_Course_keep_same : Addr
  d_Course_keep_same : FuncData
  f_Course_take_one : Addr
  d_Course_take_one : FuncData
  f_Course_sections_now : Addr
  d_Course_sections_now : FuncData
  f_Course_without_effect : Addr
  d_Course_without_effect : FuncData
  f_Record_init : Addr
  d_Record_init : FuncData
  f_Record_add_act : Addr
  d_Record_add_act : FuncData
  f_Record_add_command : Addr
  d_Record_add_command : FuncData
  f_Record_add_void : Addr
  d_Record_add_void : FuncData
  f_Record_keep : Addr
  d_Record_keep : FuncData
  f_Record_last_act : Addr
  d_Record_last_act : FuncData
  f_Record_is_before_last_act : Addr
  d_Record_is_before_last_act : FuncData
  f_Record_known_on : Addr
  d_Record_known_on : FuncData
  f_Record_valid_on : Addr
  d_Record_valid_on : FuncData
  f_Laws_init : Addr
  d_Laws_init : FuncData
  f_Laws_begin : Addr
  d_Laws_begin : FuncData
  f_Laws_course_of : Addr
  d_Laws_course_of : FuncData
  f_Laws_commands_of : Addr
  d_Laws_commands_of : FuncData
  f_Laws_sections_by : Addr
  d_Laws_sections_by : FuncData
  f_Laws_sections_of : Addr
  d_Laws_sections_of : FuncData
  f_Laws_without_effect : Addr
  d_Laws_without_effect : FuncData
  f_in_order : Addr
  d_in_order : FuncData
  k_in_order : Addr
  P_in_order : Addr
  f_counting_on : Addr
  d_counting_on : FuncData
  f_days_above : Addr
  d_days_above : FuncData
  f_is_askable : Addr
  d_is_askable : FuncData
  f_tell_read : Addr
  d_tell_read : FuncData
  f_tell_labels : Addr
  d_tell_labels : FuncData
  f_tell_origin : Addr
  d_tell_origin : FuncData
  f_tell_idle : Addr
  d_tell_idle : FuncData
  f_tell_broken : Addr
  d_tell_broken : FuncData
  f_tell_next : Addr
  d_tell_next : FuncData
  f_find_section : Addr
  d_find_section : FuncData
  f_find_text : Addr
  d_find_text : FuncData
  f_with_size : Addr
  d_with_size : FuncData
  f_rows_of : Addr
  d_rows_of : FuncData
  f_Reader_init : Addr
  d_Reader_init : FuncData
  f_Reader_has_more : Addr
  d_Reader_has_more : FuncData
  f_Reader_next_number : Addr
  d_Reader_next_number : FuncData
  f_Reader_next_row : Addr
  d_Reader_next_row : FuncData
  f_answers : Addr
  d_answers : FuncData
  f_answer_call : Addr
  d_answer_call : FuncData
  f_answer_of_law : Addr
  d_answer_of_law : FuncData
  f_read_command : Addr
  d_read_command : FuncData
structure Txt (K : PySem.W.Frag) (mg : Str → Option Value) (A : Ad) : Prop where
  cl_Command : Cls K A.c_Command
  g_Command : mg "Command" = some (.ref A.c_Command)
  mk_Command : Mk K A.c_Command A.f_Command_init
  no_Command_kind : NoAttr K A.c_Command "kind"
  no_Command_number : NoAttr K A.c_Command "number"
  no_Command_act : NoAttr K A.c_Command "act"
  no_Command_law : NoAttr K A.c_Command "law"
  no_Command_begins : NoAttr K A.c_Command "begins"
  no_Command_till : NoAttr K A.c_Command "till"
  no_Command_follow : NoAttr K A.c_Command "follow"
  no_Command_target : NoAttr K A.c_Command "target"
  no_Command_after : NoAttr K A.c_Command "after"
  no_Command_label : NoAttr K A.c_Command "label"
  no_Command_old : NoAttr K A.c_Command "old"
  no_Command_to : NoAttr K A.c_Command "to"
  no_Command_text : NoAttr K A.c_Command "text"
  cl_Section : Cls K A.c_Section
  g_Section : mg "Section" = some (.ref A.c_Section)
  mk_Section : Mk K A.c_Section A.f_Section_init
  no_Section_label : NoAttr K A.c_Section "label"
  no_Section_text : NoAttr K A.c_Section "text"
  no_Section_owners : NoAttr K A.c_Section "owners"
  cl_Step : Cls K A.c_Step
  g_Step : mg "Step" = some (.ref A.c_Step)
  mk_Step : Mk K A.c_Step A.f_Step_init
  no_Step_number : NoAttr K A.c_Step "number"
  no_Step_has_effect : NoAttr K A.c_Step "has_effect"
  no_Step_sections : NoAttr K A.c_Step "sections"
  cl_Course : Cls K A.c_Course
  g_Course : mg "Course" = some (.ref A.c_Course)
  mk_Course : Mk K A.c_Course A.f_Course_init
  no_Course_steps : NoAttr K A.c_Course "steps"
  cl_Record : Cls K A.c_Record
  g_Record : mg "Record" = some (.ref A.c_Record)
  mk_Record : Mk K A.c_Record A.f_Record_init
  no_Record_days : NoAttr K A.c_Record "days"
  no_Record_commands : NoAttr K A.c_Record "commands"
  cl_Laws : Cls K A.c_Laws
  g_Laws : mg "Laws" = some (.ref A.c_Laws)
  mk_Laws : Mk K A.c_Laws A.f_Laws_init
  no_Laws_record : NoAttr K A.c_Laws "record"
  no_Laws_courses : NoAttr K A.c_Laws "courses"
  cl_Reader : Cls K A.c_Reader
  g_Reader : mg "Reader" = some (.ref A.c_Reader)
  mk_Reader : Mk K A.c_Reader A.f_Reader_init
  no_Reader_numbers : NoAttr K A.c_Reader "numbers"
  no_Reader_place : NoAttr K A.c_Reader "place"
  n_is_day : Fun K "is_day" "is_day" s_is_day A.f_is_day A.d_is_day
  b_is_day : Binds K A.d_is_day ["day"] []
  g_is_day : mg "is_day" = some (.ref A.f_is_day)
  n_is_law : Fun K "is_law" "is_law" s_is_law A.f_is_law A.d_is_law
  b_is_law : Binds K A.d_is_law ["law"] []
  g_is_law : mg "is_law" = some (.ref A.f_is_law)
  n_is_span : Fun K "is_span" "is_span" s_is_span A.f_is_span A.d_is_span
  b_is_span : Binds K A.d_is_span ["begins", "till"] []
  g_is_span : mg "is_span" = some (.ref A.f_is_span)
  n_is_text_byte : Fun K "is_text_byte" "is_text_byte" s_is_text_byte A.f_is_text_byte A.d_is_text_byte
  b_is_text_byte : Binds K A.d_is_text_byte ["byte"] []
  g_is_text_byte : mg "is_text_byte" = some (.ref A.f_is_text_byte)
  n_is_label_byte : Fun K "is_label_byte" "is_label_byte" s_is_label_byte A.f_is_label_byte A.d_is_label_byte
  b_is_label_byte : Binds K A.d_is_label_byte ["byte"] []
  g_is_label_byte : mg "is_label_byte" = some (.ref A.f_is_label_byte)
  n_is_label : Fun K "is_label" "is_label" s_is_label A.f_is_label A.d_is_label
  b_is_label : Binds K A.d_is_label ["row"] []
  g_is_label : mg "is_label" = some (.ref A.f_is_label)
  n_is_text : Fun K "is_text" "is_text" s_is_text A.f_is_text A.d_is_text
  b_is_text : Binds K A.d_is_text ["row"] []
  g_is_text : mg "is_text" = some (.ref A.f_is_text)
  n_Command_init : Fun K "__init__" "Command.__init__" s_Command_init A.f_Command_init A.d_Command_init
  b_Command_init : Binds K A.d_Command_init ["self", "kind"] []
  n_is_sound : Fun K "is_sound" "is_sound" s_is_sound A.f_is_sound A.d_is_sound
  b_is_sound : Binds K A.d_is_sound ["command"] []
  g_is_sound : mg "is_sound" = some (.ref A.f_is_sound)
  n_is_place : Fun K "is_place" "is_place" s_is_place A.f_is_place A.d_is_place
  b_is_place : Binds K A.d_is_place ["after"] []
  g_is_place : mg "is_place" = some (.ref A.f_is_place)
  n_is_old : Fun K "is_old" "is_old" s_is_old A.f_is_old A.d_is_old
  b_is_old : Binds K A.d_is_old ["old"] []
  g_is_old : mg "is_old" = some (.ref A.f_is_old)
  n_Section_init : Fun K "__init__" "Section.__init__" s_Section_init A.f_Section_init A.d_Section_init
  b_Section_init : Binds K A.d_Section_init ["self", "label", "text", "owners"] []
  n_new_section : Fun K "new_section" "new_section" s_new_section A.f_new_section A.d_new_section
  b_new_section : Binds K A.d_new_section ["label", "text", "owner"] []
  g_new_section : mg "new_section" = some (.ref A.f_new_section)
  n_place_of : Fun K "place_of" "place_of" s_place_of A.f_place_of A.d_place_of
  b_place_of : Binds K A.d_place_of ["sections", "label"] []
  g_place_of : mg "place_of" = some (.ref A.f_place_of)
  n_places_in : Fun K "places_in" "places_in" s_places_in A.f_places_in A.d_places_in
  b_places_in : Binds K A.d_places_in ["text", "row"] []
  g_places_in : mg "places_in" = some (.ref A.f_places_in)
  n_exchange : Fun K "exchange" "exchange" s_exchange A.f_exchange A.d_exchange
  b_exchange : Binds K A.d_exchange ["section", "places", "size", "row", "owner"] []
  g_exchange : mg "exchange" = some (.ref A.f_exchange)
  n_follow_label : Fun K "follow_label" "follow_label" s_follow_label A.f_follow_label A.d_follow_label
  b_follow_label : Binds K A.d_follow_label ["section", "label", "to", "owner"] []
  g_follow_label : mg "follow_label" = some (.ref A.f_follow_label)
  n_references_in : Fun K "references_in" "references_in" s_references_in A.f_references_in A.d_references_in
  b_references_in : Binds K A.d_references_in ["text"] []
  g_references_in : mg "references_in" = some (.ref A.f_references_in)
  n_effect_of : Fun K "effect_of" "effect_of" s_effect_of A.f_effect_of A.d_effect_of
  b_effect_of : Binds K A.d_effect_of ["command", "sections"] []
  g_effect_of : mg "effect_of" = some (.ref A.f_effect_of)
  n_put_section : Fun K "put_section" "put_section" s_put_section A.f_put_section A.d_put_section
  b_put_section : Binds K A.d_put_section ["command", "sections"] []
  g_put_section : mg "put_section" = some (.ref A.f_put_section)
  n_set_section : Fun K "set_section" "set_section" s_set_section A.f_set_section A.d_set_section
  b_set_section : Binds K A.d_set_section ["sections", "place", "section"] []
  g_set_section : mg "set_section" = some (.ref A.f_set_section)
  n_change_word : Fun K "change_word" "change_word" s_change_word A.f_change_word A.d_change_word
  b_change_word : Binds K A.d_change_word ["command", "sections", "place"] []
  g_change_word : mg "change_word" = some (.ref A.f_change_word)
  n_change_label : Fun K "change_label" "change_label" s_change_label A.f_change_label A.d_change_label
  b_change_label : Binds K A.d_change_label ["command", "sections", "place"] []
  g_change_label : mg "change_label" = some (.ref A.f_change_label)
  n_is_short : Fun K "is_short" "is_short" s_is_short A.f_is_short A.d_is_short
  b_is_short : Binds K A.d_is_short ["section"] []
  g_is_short : mg "is_short" = some (.ref A.f_is_short)
  n_Step_init : Fun K "__init__" "Step.__init__" s_Step_init A.f_Step_init A.d_Step_init
  b_Step_init : Binds K A.d_Step_init ["self", "number", "has_effect", "sections"] []
  n_Course_init : Fun K "__init__" "Course.__init__" s_Course_init A.f_Course_init A.d_Course_init
  b_Course_init : Binds K A.d_Course_init ["self"] []
  n_Course_take_all : Fun K "take_all" "Course.take_all" s_Course_take_all A.f_Course_take_all A.d_Course_take_all
  b_Course_take_all : Binds K A.d_Course_take_all ["self", "commands"] []
  m_Course_take_all : Meth K A.c_Course "take_all" A.f_Course_take_all
  n_Course_keep_same : Fun K "keep_same" "Course.keep_same" s_Course_keep_same A.f_Course_keep_same A.d_Course_keep_same
  b_Course_keep_same : Binds K A.d_Course_keep_same ["self", "commands"] []
  m_Course_keep_same : Meth K A.c_Course "keep_same" A.f_Course_keep_same
  n_Course_take_one : Fun K "take_one" "Course.take_one" s_Course_take_one A.f_Course_take_one A.d_Course_take_one
  b_Course_take_one : Binds K A.d_Course_take_one ["self", "command"] []
  m_Course_take_one : Meth K A.c_Course "take_one" A.f_Course_take_one
  n_Course_sections_now : Fun K "sections_now" "Course.sections_now" s_Course_sections_now A.f_Course_sections_now A.d_Course_sections_now
  b_Course_sections_now : Binds K A.d_Course_sections_now ["self"] []
  m_Course_sections_now : Meth K A.c_Course "sections_now" A.f_Course_sections_now
  n_Course_without_effect : Fun K "without_effect" "Course.without_effect" s_Course_without_effect A.f_Course_without_effect A.d_Course_without_effect
  b_Course_without_effect : Binds K A.d_Course_without_effect ["self"] []
  m_Course_without_effect : Meth K A.c_Course "without_effect" A.f_Course_without_effect
  n_Record_init : Fun K "__init__" "Record.__init__" s_Record_init A.f_Record_init A.d_Record_init
  b_Record_init : Binds K A.d_Record_init ["self"] []
  n_Record_add_act : Fun K "add_act" "Record.add_act" s_Record_add_act A.f_Record_add_act A.d_Record_add_act
  b_Record_add_act : Binds K A.d_Record_add_act ["self", "day"] []
  m_Record_add_act : Meth K A.c_Record "add_act" A.f_Record_add_act
  n_Record_add_command : Fun K "add_command" "Record.add_command" s_Record_add_command A.f_Record_add_command A.d_Record_add_command
  b_Record_add_command : Binds K A.d_Record_add_command ["self", "command"] []
  m_Record_add_command : Meth K A.c_Record "add_command" A.f_Record_add_command
  n_Record_add_void : Fun K "add_void" "Record.add_void" s_Record_add_void A.f_Record_add_void A.d_Record_add_void
  b_Record_add_void : Binds K A.d_Record_add_void ["self", "target"] []
  m_Record_add_void : Meth K A.c_Record "add_void" A.f_Record_add_void
  n_Record_keep : Fun K "keep" "Record.keep" s_Record_keep A.f_Record_keep A.d_Record_keep
  b_Record_keep : Binds K A.d_Record_keep ["self", "command"] []
  m_Record_keep : Meth K A.c_Record "keep" A.f_Record_keep
  n_Record_last_act : Fun K "last_act" "Record.last_act" s_Record_last_act A.f_Record_last_act A.d_Record_last_act
  b_Record_last_act : Binds K A.d_Record_last_act ["self"] []
  m_Record_last_act : Meth K A.c_Record "last_act" A.f_Record_last_act
  n_Record_is_before_last_act : Fun K "is_before_last_act" "Record.is_before_last_act" s_Record_is_before_last_act A.f_Record_is_before_last_act A.d_Record_is_before_last_act
  b_Record_is_before_last_act : Binds K A.d_Record_is_before_last_act ["self", "day"] []
  m_Record_is_before_last_act : Meth K A.c_Record "is_before_last_act" A.f_Record_is_before_last_act
  n_Record_known_on : Fun K "known_on" "Record.known_on" s_Record_known_on A.f_Record_known_on A.d_Record_known_on
  b_Record_known_on : Binds K A.d_Record_known_on ["self", "day"] []
  m_Record_known_on : Meth K A.c_Record "known_on" A.f_Record_known_on
  n_Record_valid_on : Fun K "valid_on" "Record.valid_on" s_Record_valid_on A.f_Record_valid_on A.d_Record_valid_on
  b_Record_valid_on : Binds K A.d_Record_valid_on ["self", "day"] []
  m_Record_valid_on : Meth K A.c_Record "valid_on" A.f_Record_valid_on
  n_Laws_init : Fun K "__init__" "Laws.__init__" s_Laws_init A.f_Laws_init A.d_Laws_init
  b_Laws_init : Binds K A.d_Laws_init ["self"] []
  n_Laws_begin : Fun K "begin" "Laws.begin" s_Laws_begin A.f_Laws_begin A.d_Laws_begin
  b_Laws_begin : Binds K A.d_Laws_begin ["self"] []
  m_Laws_begin : Meth K A.c_Laws "begin" A.f_Laws_begin
  n_Laws_course_of : Fun K "course_of" "Laws.course_of" s_Laws_course_of A.f_Laws_course_of A.d_Laws_course_of
  b_Laws_course_of : Binds K A.d_Laws_course_of ["self", "law"] []
  m_Laws_course_of : Meth K A.c_Laws "course_of" A.f_Laws_course_of
  n_Laws_commands_of : Fun K "commands_of" "Laws.commands_of" s_Laws_commands_of A.f_Laws_commands_of A.d_Laws_commands_of
  b_Laws_commands_of : Binds K A.d_Laws_commands_of ["self", "law", "known"] []
  m_Laws_commands_of : Meth K A.c_Laws "commands_of" A.f_Laws_commands_of
  n_Laws_sections_by : Fun K "sections_by" "Laws.sections_by" s_Laws_sections_by A.f_Laws_sections_by A.d_Laws_sections_by
  b_Laws_sections_by : Binds K A.d_Laws_sections_by ["self", "law", "commands", "on"] []
  m_Laws_sections_by : Meth K A.c_Laws "sections_by" A.f_Laws_sections_by
  n_Laws_sections_of : Fun K "sections_of" "Laws.sections_of" s_Laws_sections_of A.f_Laws_sections_of A.d_Laws_sections_of
  b_Laws_sections_of : Binds K A.d_Laws_sections_of ["self", "law", "on", "known"] []
  m_Laws_sections_of : Meth K A.c_Laws "sections_of" A.f_Laws_sections_of
  n_Laws_without_effect : Fun K "without_effect" "Laws.without_effect" s_Laws_without_effect A.f_Laws_without_effect A.d_Laws_without_effect
  b_Laws_without_effect : Binds K A.d_Laws_without_effect ["self", "on", "known"] []
  m_Laws_without_effect : Meth K A.c_Laws "without_effect" A.f_Laws_without_effect
  n_in_order : Fun K "in_order" "in_order" s_in_order A.f_in_order A.d_in_order
  b_in_order : Binds K A.d_in_order ["commands"] []
  lam_in_order : ∃ (oc : Value) (od : Option Addr) (kV doc pm : Value) (an : Option Addr) (ct : Value) (osl : Array (Option Value)), A.d_in_order = PySem.W.fnOf "in_order" "in_order" (defArgs s_in_order) (defBody s_in_order) (defScope s_in_order) .none kV doc pm an (.ref A.k_in_order) ct ∧ K.lookup A.f_in_order = some ⟨oc, od, .func A.d_in_order, osl⟩ ∧ PySem.W.codeIn K (.ref A.k_in_order) "in_order" = true
  g_in_order : mg "in_order" = some (.ref A.f_in_order)
  n_counting_on : Fun K "counting_on" "counting_on" s_counting_on A.f_counting_on A.d_counting_on
  b_counting_on : Binds K A.d_counting_on ["commands", "day"] []
  g_counting_on : mg "counting_on" = some (.ref A.f_counting_on)
  n_days_above : Fun K "days_above" "days_above" s_days_above A.f_days_above A.d_days_above
  b_days_above : Binds K A.d_days_above ["commands", "on"] []
  g_days_above : mg "days_above" = some (.ref A.f_days_above)
  n_is_askable : Fun K "is_askable" "is_askable" s_is_askable A.f_is_askable A.d_is_askable
  b_is_askable : Binds K A.d_is_askable ["law", "on", "known"] []
  g_is_askable : mg "is_askable" = some (.ref A.f_is_askable)
  n_tell_read : Fun K "tell_read" "tell_read" s_tell_read A.f_tell_read A.d_tell_read
  b_tell_read : Binds K A.d_tell_read ["laws", "law", "label", "on", "known"] []
  g_tell_read : mg "tell_read" = some (.ref A.f_tell_read)
  n_tell_labels : Fun K "tell_labels" "tell_labels" s_tell_labels A.f_tell_labels A.d_tell_labels
  b_tell_labels : Binds K A.d_tell_labels ["laws", "law", "on", "known"] []
  g_tell_labels : mg "tell_labels" = some (.ref A.f_tell_labels)
  n_tell_origin : Fun K "tell_origin" "tell_origin" s_tell_origin A.f_tell_origin A.d_tell_origin
  b_tell_origin : Binds K A.d_tell_origin ["laws", "law", "label", "on", "known"] []
  g_tell_origin : mg "tell_origin" = some (.ref A.f_tell_origin)
  n_tell_idle : Fun K "tell_idle" "tell_idle" s_tell_idle A.f_tell_idle A.d_tell_idle
  b_tell_idle : Binds K A.d_tell_idle ["laws", "on", "known"] []
  g_tell_idle : mg "tell_idle" = some (.ref A.f_tell_idle)
  n_tell_broken : Fun K "tell_broken" "tell_broken" s_tell_broken A.f_tell_broken A.d_tell_broken
  b_tell_broken : Binds K A.d_tell_broken ["laws", "law", "on", "known", "k"] []
  g_tell_broken : mg "tell_broken" = some (.ref A.f_tell_broken)
  n_tell_next : Fun K "tell_next" "tell_next" s_tell_next A.f_tell_next A.d_tell_next
  b_tell_next : Binds K A.d_tell_next ["laws", "law", "label", "on", "known"] []
  g_tell_next : mg "tell_next" = some (.ref A.f_tell_next)
  n_find_section : Fun K "find_section" "find_section" s_find_section A.f_find_section A.d_find_section
  b_find_section : Binds K A.d_find_section ["sections", "label"] []
  g_find_section : mg "find_section" = some (.ref A.f_find_section)
  n_find_text : Fun K "find_text" "find_text" s_find_text A.f_find_text A.d_find_text
  b_find_text : Binds K A.d_find_text ["sections", "label"] []
  g_find_text : mg "find_text" = some (.ref A.f_find_text)
  n_with_size : Fun K "with_size" "with_size" s_with_size A.f_with_size A.d_with_size
  b_with_size : Binds K A.d_with_size ["row"] []
  g_with_size : mg "with_size" = some (.ref A.f_with_size)
  n_rows_of : Fun K "rows_of" "rows_of" s_rows_of A.f_rows_of A.d_rows_of
  b_rows_of : Binds K A.d_rows_of ["owners"] []
  g_rows_of : mg "rows_of" = some (.ref A.f_rows_of)
  n_Reader_init : Fun K "__init__" "Reader.__init__" s_Reader_init A.f_Reader_init A.d_Reader_init
  b_Reader_init : Binds K A.d_Reader_init ["self", "numbers"] []
  n_Reader_has_more : Fun K "has_more" "Reader.has_more" s_Reader_has_more A.f_Reader_has_more A.d_Reader_has_more
  b_Reader_has_more : Binds K A.d_Reader_has_more ["self"] []
  m_Reader_has_more : Meth K A.c_Reader "has_more" A.f_Reader_has_more
  n_Reader_next_number : Fun K "next_number" "Reader.next_number" s_Reader_next_number A.f_Reader_next_number A.d_Reader_next_number
  b_Reader_next_number : Binds K A.d_Reader_next_number ["self"] []
  m_Reader_next_number : Meth K A.c_Reader "next_number" A.f_Reader_next_number
  n_Reader_next_row : Fun K "next_row" "Reader.next_row" s_Reader_next_row A.f_Reader_next_row A.d_Reader_next_row
  b_Reader_next_row : Binds K A.d_Reader_next_row ["self"] []
  m_Reader_next_row : Meth K A.c_Reader "next_row" A.f_Reader_next_row
  n_answers : Fun K "answers" "answers" s_answers A.f_answers A.d_answers
  b_answers : Binds K A.d_answers ["calls"] []
  g_answers : mg "answers" = some (.ref A.f_answers)
  n_answer_call : Fun K "answer_call" "answer_call" s_answer_call A.f_answer_call A.d_answer_call
  b_answer_call : Binds K A.d_answer_call ["laws", "reader"] []
  g_answer_call : mg "answer_call" = some (.ref A.f_answer_call)
  n_answer_of_law : Fun K "answer_of_law" "answer_of_law" s_answer_of_law A.f_answer_of_law A.d_answer_of_law
  b_answer_of_law : Binds K A.d_answer_of_law ["laws", "call", "reader"] []
  g_answer_of_law : mg "answer_of_law" = some (.ref A.f_answer_of_law)
  n_read_command : Fun K "read_command" "read_command" s_read_command A.f_read_command A.d_read_command
  b_read_command : Binds K A.d_read_command ["kind", "reader"] []
  g_read_command : mg "read_command" = some (.ref A.f_read_command)
  g_ACT : ∃ t, mg "ACT" = some (.int (1) t)
  g_BEGIN : ∃ t, mg "BEGIN" = some (.int (0) t)
  g_BLANK : ∃ t, mg "BLANK" = some (.int (32) t)
  g_BROKEN : ∃ t, mg "BROKEN" = some (.int (12) t)
  g_DONE : ∃ t, mg "DONE" = some (.int (0) t)
  g_FOUND : ∃ t, mg "FOUND" = some (.int (1) t)
  g_FULL : ∃ t, mg "FULL" = some (.int (-28) t)
  g_IDLE : ∃ t, mg "IDLE" = some (.int (11) t)
  g_LABELS : ∃ t, mg "LABELS" = some (.int (9) t)
  g_LAST_DAY : ∃ t, mg "LAST_DAY" = some (.int (1048576) t)
  g_LAST_FOLLOW : ∃ t, mg "LAST_FOLLOW" = some (.int (1) t)
  g_LAST_LAW : ∃ t, mg "LAST_LAW" = some (.int (63) t)
  g_LAST_SIGN : ∃ t, mg "LAST_SIGN" = some (.int (126) t)
  g_LEFT_BRACKET : ∃ t, mg "LEFT_BRACKET" = some (.int (91) t)
  g_MOST_ACTS : ∃ t, mg "MOST_ACTS" = some (.int (512) t)
  g_MOST_COMMANDS : ∃ t, mg "MOST_COMMANDS" = some (.int (1024) t)
  g_MOST_LABEL_BYTES : ∃ t, mg "MOST_LABEL_BYTES" = some (.int (16) t)
  g_MOST_SECTIONS : ∃ t, mg "MOST_SECTIONS" = some (.int (64) t)
  g_MOST_SECTION_BYTES : ∃ t, mg "MOST_SECTION_BYTES" = some (.int (4096) t)
  g_MOST_TEXT_BYTES : ∃ t, mg "MOST_TEXT_BYTES" = some (.int (1024) t)
  g_NAME : ∃ t, mg "NAME" = some (.int (6) t)
  g_NONE_LEFT : ∃ t, mg "NONE_LEFT" = some (.int (0) t)
  g_NO_ACT : ∃ t, mg "NO_ACT" = some (.int (-2) t)
  g_NO_SECTION : ∃ t, mg "NO_SECTION" = some (.int (-2) t)
  g_ORIGIN : ∃ t, mg "ORIGIN" = some (.int (10) t)
  g_PUT : ∃ t, mg "PUT" = some (.int (2) t)
  g_READ : ∃ t, mg "READ" = some (.int (8) t)
  g_RIGHT_BRACKET : ∃ t, mg "RIGHT_BRACKET" = some (.int (93) t)
  g_TAKE : ∃ t, mg "TAKE" = some (.int (3) t)
  g_TEXT : ∃ t, mg "TEXT" = some (.int (4) t)
  g_TOLD : ∃ t, mg "TOLD" = some (.int (0) t)
  g_VOID : ∃ t, mg "VOID" = some (.int (7) t)
  g_WORD : ∃ t, mg "WORD" = some (.int (5) t)
  g_WRONG : ∃ t, mg "WRONG" = some (.int (-1) t)
  z_all : mg "all" = none
  z_enumerate : mg "enumerate" = none
  z_len : mg "len" = none
  z_range : mg "range" = none
  z_reversed : mg "reversed" = none
  z_sorted : mg "sorted" = none
section
variable {P : Program} {w : World} {K : PySem.W.Frag} {mg : Str → Option Value} {base : Heap} {A : Ad}
def t_is_day (K : PySem.W.Frag) (A : Ad) : TS :=
  (tRet (tOp oLe (tVar 0) (tC (.int (1048576)))))
theorem ok_is_day (T : Txt K mg A) {sp : Sp} (len : ∀ vs H Q E, sp vs H Q E → vs.length = 1)
    (pure : ∀ vs H Q E, sp vs H Q E → t_is_day K A { nx := fun _ H' => Q .non H', rt := Q } (start ["day"] vs) H) :
    FnOk P w K mg base CX0 1 A.f_is_day A.d_is_day ["day"] sp := by
  refine T.n_is_day.ok sc_is_day len (fun cdv A' outer s H vs Q E hr h => ⟨t_is_day K A, ?_, pure vs H Q E h⟩)
  exact (pss_one (ps_ret (pe_cmpR op_le (pv 0) (pe_glob rfl T.g_LAST_DAY.choose_spec ⟨_, rfl⟩) (nomark _))))
def t_is_law (K : PySem.W.Frag) (A : Ad) : TS :=
  (tRet (tOp oLe (tVar 0) (tC (.int (63)))))
theorem ok_is_law (T : Txt K mg A) {sp : Sp} (len : ∀ vs H Q E, sp vs H Q E → vs.length = 1)
    (pure : ∀ vs H Q E, sp vs H Q E → t_is_law K A { nx := fun _ H' => Q .non H', rt := Q } (start ["law"] vs) H) :
    FnOk P w K mg base CX0 1 A.f_is_law A.d_is_law ["law"] sp := by
  refine T.n_is_law.ok sc_is_law len (fun cdv A' outer s H vs Q E hr h => ⟨t_is_law K A, ?_, pure vs H Q E h⟩)
  exact (pss_one (ps_ret (pe_cmpR op_le (pv 0) (pe_glob rfl T.g_LAST_LAW.choose_spec ⟨_, rfl⟩) (nomark _))))
def t_is_text_byte (K : PySem.W.Frag) (A : Ad) : TS :=
  (tRet (tAndV (tOp oGe (tVar 0) (tC (.int (32)))) (tOp oLe (tVar 0) (tC (.int (126))))))
theorem ok_is_text_byte (T : Txt K mg A) {sp : Sp} (len : ∀ vs H Q E, sp vs H Q E → vs.length = 1)
    (pure : ∀ vs H Q E, sp vs H Q E → t_is_text_byte K A { nx := fun _ H' => Q .non H', rt := Q } (start ["byte"] vs) H) :
    FnOk P w K mg base CX0 1 A.f_is_text_byte A.d_is_text_byte ["byte"] sp := by
  refine T.n_is_text_byte.ok sc_is_text_byte len (fun cdv A' outer s H vs Q E hr h => ⟨t_is_text_byte K A, ?_, pure vs H Q E h⟩)
  exact (pss_one (ps_ret (pe_and (pe_cmpR op_ge (pv 0) (pe_glob rfl T.g_BLANK.choose_spec ⟨_, rfl⟩) (nomark _)) (pe_one (pe_cmpR op_le (pv 0) (pe_glob rfl T.g_LAST_SIGN.choose_spec ⟨_, rfl⟩) (nomark _))))))
def t_Command_init (K : PySem.W.Frag) (A : Ad) : TS :=
  (tSeq (sFld K (tVar 0) (tVar 1) "kind")
    (tSeq (sFld K (tVar 0) (tC (.int 0)) "number")
    (tSeq (sFld K (tVar 0) (tC (.int 0)) "act")
    (tSeq (sFld K (tVar 0) (tC (.int 0)) "law")
    (tSeq (sFld K (tVar 0) (tC (.int 0)) "begins")
    (tSeq (sFld K (tVar 0) (tC (.int 0)) "till")
    (tSeq (sFld K (tVar 0) (tC (.int 0)) "follow")
    (tSeq (sFld K (tVar 0) (tC (.int 0)) "target")
    (tSeq (sFld K (tVar 0) (tLst tNil) "after")
    (tSeq (sFld K (tVar 0) (tLst tNil) "label")
    (tSeq (sFld K (tVar 0) (tLst tNil) "old")
    (tSeq (sFld K (tVar 0) (tLst tNil) "to")
    (sFld K (tVar 0) (tLst tNil) "text")))))))))))))
theorem ok_Command_init (T : Txt K mg A) {sp : Sp} (len : ∀ vs H Q E, sp vs H Q E → vs.length = 2)
    (pure : ∀ vs H Q E, sp vs H Q E → t_Command_init K A { nx := fun _ H' => Q .non H', rt := Q } (start ["self", "kind"] vs) H) :
    FnOk P w K mg base CX0 1 A.f_Command_init A.d_Command_init ["self", "kind"] sp := by
  refine T.n_Command_init.ok sc_Command_init len (fun cdv A' outer s H vs Q E hr h => ⟨t_Command_init K A, ?_, pure vs H Q E h⟩)
  exact (pss_cons (ps_fld (pv 0) (pv 1) rfl)
    (pss_cons (ps_fld (pv 0) pe_int rfl)
    (pss_cons (ps_fld (pv 0) pe_int rfl)
    (pss_cons (ps_fld (pv 0) pe_int rfl)
    (pss_cons (ps_fld (pv 0) pe_int rfl)
    (pss_cons (ps_fld (pv 0) pe_int rfl)
    (pss_cons (ps_fld (pv 0) pe_int rfl)
    (pss_cons (ps_fld (pv 0) pe_int rfl)
    (pss_cons (ps_fld (pv 0) (pe_lst pa_nil) rfl)
    (pss_cons (ps_fld (pv 0) (pe_lst pa_nil) rfl)
    (pss_cons (ps_fld (pv 0) (pe_lst pa_nil) rfl)
    (pss_cons (ps_fld (pv 0) (pe_lst pa_nil) rfl)
    (pss_one (ps_fld (pv 0) (pe_lst pa_nil) rfl))))))))))))))
def t_Section_init (K : PySem.W.Frag) (A : Ad) : TS :=
  (tSeq (sFld K (tVar 0) (tVar 1) "label")
    (tSeq (sFld K (tVar 0) (tVar 2) "text")
    (sFld K (tVar 0) (tVar 3) "owners")))
theorem ok_Section_init (T : Txt K mg A) {sp : Sp} (len : ∀ vs H Q E, sp vs H Q E → vs.length = 4)
    (pure : ∀ vs H Q E, sp vs H Q E → t_Section_init K A { nx := fun _ H' => Q .non H', rt := Q } (start ["self", "label", "text", "owners"] vs) H) :
    FnOk P w K mg base CX0 1 A.f_Section_init A.d_Section_init ["self", "label", "text", "owners"] sp := by
  refine T.n_Section_init.ok sc_Section_init len (fun cdv A' outer s H vs Q E hr h => ⟨t_Section_init K A, ?_, pure vs H Q E h⟩)
  exact (pss_cons (ps_fld (pv 0) (pv 1) rfl)
    (pss_cons (ps_fld (pv 0) (pv 2) rfl)
    (pss_one (ps_fld (pv 0) (pv 3) rfl))))
def t_place_of (K : PySem.W.Frag) (A : Ad) : TS :=
  (tSeq (tFor (iEnum K (tCons (tVar 0) tNil)) (gTup K 2 (gCons (gName 2) (gCons (gName 3) gNil))) (tIfS (tTest (tOp (rEqD K) (tFld K (tVar 3) "label") (tVar 1))) (tRet (tVar 2)) tNext))
    (tRet (tC .non)))
theorem ok_place_of (T : Txt K mg A) {sp : Sp} (len : ∀ vs H Q E, sp vs H Q E → vs.length = 2)
    (pure : ∀ vs H Q E, sp vs H Q E → t_place_of K A { nx := fun _ H' => Q .non H', rt := Q } (start ["sections", "label", "place", "section"] vs) H) :
    FnOk P w K mg base CX0 1 A.f_place_of A.d_place_of ["sections", "label"] sp := by
  refine T.n_place_of.ok sc_place_of len (fun cdv A' outer s H vs Q E hr h => ⟨t_place_of K A, ?_, pure vs H Q E h⟩)
  exact (pss_cons (ps_for PassesOwn.never rfl (pi_enum (by rfl) T.z_enumerate (pa_cons (pv 0) pa_nil)) (pg_tup rfl (pgs_cons (pg_name (i := 2) sc_place_of.nd rfl (Or.inl rfl)) (pgs_cons (pg_name (i := 3) sc_place_of.nd rfl (Or.inl rfl)) pgs_nil))) (pss_one (ps_if (pt_cmpR (op_eqD (hr.units)) (pe_fld (pv 3) rfl) (pv 1) (nomark _)) (pss_one (ps_ret (pv 2))) pss_nil)))
    (pss_one (ps_ret pe_non)))
def t_places_in (K : PySem.W.Frag) (A : Ad) : TS :=
  (tSeq (tAsg (tCB (oLen K) (tCons (tVar 1) tNil)) (gName 2))
    (tSeq (tAsg (tLst tNil) (gName 3))
    (tSeq (tFor (iRng1 (tCons (tOp oAdd (tOp oSub (tCB (oLen K) (tCons (tVar 0) tNil)) (tVar 2)) (tC (.int 1))) tNil)) (gName 4) (tIfS (tAnd (tTest (tOp rEq (tOp (rIxL K) (tVar 0) (tVar 4)) (tOp (rIxL K) (tVar 1) (tC (.int 0))))) (tTest (tOp (rEqD K) (tSl (rSlL K) (tVar 0) (tPart (tVar 4)) (tPart (tOp oAdd (tVar 4) (tVar 2)))) (tVar 1)))) (tDrop (tBM K "list" rAppend (tVar 3) (tCons (tVar 4) tNil))) tNext))
    (tRet (tVar 3)))))
theorem ok_places_in (T : Txt K mg A) {sp : Sp} (len : ∀ vs H Q E, sp vs H Q E → vs.length = 2)
    (pure : ∀ vs H Q E, sp vs H Q E → t_places_in K A { nx := fun _ H' => Q .non H', rt := Q } (start ["text", "row", "size", "found", "place"] vs) H) :
    FnOk P w K mg base CX0 1 A.f_places_in A.d_places_in ["text", "row"] sp := by
  refine T.n_places_in.ok sc_places_in len (fun cdv A' outer s H vs Q E hr h => ⟨t_places_in K A, ?_, pure vs H Q E h⟩)
  exact (pss_cons (ps_set (i := 2) sc_places_in.nd rfl (Or.inl rfl) (pe_callB call_len_seq (by rfl) T.z_len PySem.boot_len (pa_cons (pv 1) pa_nil)))
    (pss_cons (ps_set (i := 3) sc_places_in.nd rfl (Or.inl rfl) (pe_lst pa_nil))
    (pss_cons (ps_for PassesOwn.never rfl (pi_range1 rfl T.z_range (pa_cons (pe_op op_add (pe_op op_sub (pe_callB call_len_seq (by rfl) T.z_len PySem.boot_len (pa_cons (pv 0) pa_nil)) (pv 2)) pe_int) pa_nil)) (pg_name (i := 4) sc_places_in.nd rfl (Or.inl rfl)) (pss_one (ps_if (PW.pt (pw_and (pt_cmpR op_eq (pe_ix ix_list (pv 0) (pv 4) (fun _ _ => rfl)) (pe_ix ix_list (pv 1) pe_int (fun _ _ => rfl)) (nomark _)) (pw_and1 (pt_cmpR (op_eqD (hr.units)) (pe_slice sl_list (pv 0) (po_some (pv 4)) (po_some (pe_op op_add (pv 4) (pv 2)))) (pv 1) (nomark _))))) (pss_one (ps_expr (pe_bm PySem.F.plainAttrs_list PySem.F.slot_list_append PySem.F.type_list_append mt_append (pv 3) (pa_cons (pv 4) pa_nil)))) pss_nil)))
    (pss_one (ps_ret (pv 3))))))
def t_set_section (K : PySem.W.Frag) (A : Ad) : TS :=
  (tRet (tOp rCat (tOp rCat (tSl (rSlL K) (tVar 0) tNoPart (tPart (tVar 1))) (tLst (tCons (tVar 2) tNil))) (tSl (rSlL K) (tVar 0) (tPart (tOp oAdd (tVar 1) (tC (.int 1)))) tNoPart)))
theorem ok_set_section (T : Txt K mg A) {sp : Sp} (len : ∀ vs H Q E, sp vs H Q E → vs.length = 3)
    (pure : ∀ vs H Q E, sp vs H Q E → t_set_section K A { nx := fun _ H' => Q .non H', rt := Q } (start ["sections", "place", "section"] vs) H) :
    FnOk P w K mg base CX0 1 A.f_set_section A.d_set_section ["sections", "place", "section"] sp := by
  refine T.n_set_section.ok sc_set_section len (fun cdv A' outer s H vs Q E hr h => ⟨t_set_section K A, ?_, pure vs H Q E h⟩)
  exact (pss_one (ps_ret (pe_op op_cat (pe_op op_cat (pe_slice sl_list (pv 0) po_none (po_some (pv 1))) (pe_lst (pa_cons (pv 2) pa_nil))) (pe_slice sl_list (pv 0) (po_some (pe_op op_add (pv 1) pe_int)) po_none))))
def t_is_short (K : PySem.W.Frag) (A : Ad) : TS :=
  (tRet (tOp oLe (tCB (oLen K) (tCons (tFld K (tVar 0) "text") tNil)) (tC (.int (4096)))))
theorem ok_is_short (T : Txt K mg A) {sp : Sp} (len : ∀ vs H Q E, sp vs H Q E → vs.length = 1)
    (pure : ∀ vs H Q E, sp vs H Q E → t_is_short K A { nx := fun _ H' => Q .non H', rt := Q } (start ["section"] vs) H) :
    FnOk P w K mg base CX0 1 A.f_is_short A.d_is_short ["section"] sp := by
  refine T.n_is_short.ok sc_is_short len (fun cdv A' outer s H vs Q E hr h => ⟨t_is_short K A, ?_, pure vs H Q E h⟩)
  exact (pss_one (ps_ret (pe_cmpR op_le (pe_callB call_len_seq (by rfl) T.z_len PySem.boot_len (pa_cons (pe_fld (pv 0) rfl) pa_nil)) (pe_glob rfl T.g_MOST_SECTION_BYTES.choose_spec ⟨_, rfl⟩) (nomark _))))
def t_Step_init (K : PySem.W.Frag) (A : Ad) : TS :=
  (tSeq (sFld K (tVar 0) (tVar 1) "number")
    (tSeq (sFld K (tVar 0) (tVar 2) "has_effect")
    (sFld K (tVar 0) (tVar 3) "sections")))
theorem ok_Step_init (T : Txt K mg A) {sp : Sp} (len : ∀ vs H Q E, sp vs H Q E → vs.length = 4)
    (pure : ∀ vs H Q E, sp vs H Q E → t_Step_init K A { nx := fun _ H' => Q .non H', rt := Q } (start ["self", "number", "has_effect", "sections"] vs) H) :
    FnOk P w K mg base CX0 1 A.f_Step_init A.d_Step_init ["self", "number", "has_effect", "sections"] sp := by
  refine T.n_Step_init.ok sc_Step_init len (fun cdv A' outer s H vs Q E hr h => ⟨t_Step_init K A, ?_, pure vs H Q E h⟩)
  exact (pss_cons (ps_fld (pv 0) (pv 1) rfl)
    (pss_cons (ps_fld (pv 0) (pv 2) rfl)
    (pss_one (ps_fld (pv 0) (pv 3) rfl))))
def t_Course_init (K : PySem.W.Frag) (A : Ad) : TS :=
  (sFld K (tVar 0) (tLst tNil) "steps")
theorem ok_Course_init (T : Txt K mg A) {sp : Sp} (len : ∀ vs H Q E, sp vs H Q E → vs.length = 1)
    (pure : ∀ vs H Q E, sp vs H Q E → t_Course_init K A { nx := fun _ H' => Q .non H', rt := Q } (start ["self"] vs) H) :
    FnOk P w K mg base CX0 1 A.f_Course_init A.d_Course_init ["self"] sp := by
  refine T.n_Course_init.ok sc_Course_init len (fun cdv A' outer s H vs Q E hr h => ⟨t_Course_init K A, ?_, pure vs H Q E h⟩)
  exact (pss_one (ps_fld (pv 0) (pe_lst pa_nil) rfl))
def t_Course_keep_same (K : PySem.W.Frag) (A : Ad) : TS :=
  (tSeq (tAsg (tOp rCat (tLc (iList K (tVar 1)) (gName 6) tYes (tFld K (tVar 6) "number") [6]) (tLst (tCons (tUn oNeg (tC (.int 1))) tNil))) (gName 2))
    (tSeq (tAsg (tLst tNil) (gName 3))
    (tSeq (tAsg (tC (.int 0)) (gName 4))
    (tSeq (tFor (iList K (tFld K (tVar 0) "steps")) (gName 5) (tIfS (tTest (tOp rEq (tFld K (tVar 5) "number") (tOp (rIxL K) (tVar 2) (tVar 4)))) (tSeq (tDrop (tBM K "list" rAppend (tVar 3) (tCons (tVar 5) tNil)))
            (tAsg (tOp oAdd (tVar 4) (tC (.int 1))) (gName 4))) (tIfS (tB (tFld K (tVar 5) "has_effect")) tBreak tNext)))
    (sFld K (tVar 0) (tVar 3) "steps")))))
theorem ok_Course_keep_same (T : Txt K mg A) {sp : Sp} (len : ∀ vs H Q E, sp vs H Q E → vs.length = 2)
    (pure : ∀ vs H Q E, sp vs H Q E → t_Course_keep_same K A { nx := fun _ H' => Q .non H', rt := Q } (start ["self", "commands", "numbers", "kept", "place", "step", "command"] vs) H) :
    FnOk P w K mg base CX0 1 A.f_Course_keep_same A.d_Course_keep_same ["self", "commands"] sp := by
  refine T.n_Course_keep_same.ok sc_Course_keep_same len (fun cdv A' outer s H vs Q E hr h => ⟨t_Course_keep_same K A, ?_, pure vs H Q E h⟩)
  exact (pss_cons (ps_set (i := 2) sc_Course_keep_same.nd rfl (Or.inl rfl) (pe_op op_cat (pe_lc (own := [("command", 6)]) (g := gName 6) (by rfl) sc_Course_keep_same.nd (pi_list (pv 1)) (blkOk_by (own := [("command", 6)]) (N := ["self", "commands", "numbers", "kept", "place", "step", "command"]) (sc := defScope s_Course_keep_same) (by decide +kernel)) (fun _ _ _ _ _ => pg_name (i := 6) sc_Course_keep_same.nd rfl (Or.inl rfl)) (fun _ _ _ _ _ => pts_nil) (fun _ _ _ _ _ => (pe_fld (pv 6) rfl))) (pe_lst (pa_cons (pe_un un_neg pe_int) pa_nil))))
    (pss_cons (ps_set (i := 3) sc_Course_keep_same.nd rfl (Or.inl rfl) (pe_lst pa_nil))
    (pss_cons (ps_set (i := 4) sc_Course_keep_same.nd rfl (Or.inl rfl) pe_int)
    (pss_cons (ps_for PassesOwn.never rfl (pi_list (pe_fld (pv 0) rfl)) (pg_name (i := 5) sc_Course_keep_same.nd rfl (Or.inl rfl)) (pss_one (ps_if (pt_cmpR op_eq (pe_fld (pv 5) rfl) (pe_ix ix_list (pv 2) (pv 4) (fun _ _ => rfl)) (nomark _)) (pss_cons (ps_expr (pe_bm PySem.F.plainAttrs_list PySem.F.slot_list_append PySem.F.type_list_append mt_append (pv 3) (pa_cons (pv 5) pa_nil)))
            (pss_one (ps_set (i := 4) sc_Course_keep_same.nd rfl (Or.inl rfl) (pe_op op_add (pv 4) pe_int)))) (pss_one (ps_if (pt_val (pe_fld (pv 5) rfl)) (pss_one ps_break) pss_nil)))))
    (pss_one (ps_fld (pv 0) (pv 3) rfl))))))
def t_Course_sections_now (K : PySem.W.Frag) (A : Ad) : TS :=
  (tRet (tIf (tTest (tOp oGt (tCB (oLen K) (tCons (tFld K (tVar 0) "steps") tNil)) (tC (.int 0)))) (tFld K (tOp (rIxL K) (tFld K (tVar 0) "steps") (tOp oSub (tCB (oLen K) (tCons (tFld K (tVar 0) "steps") tNil)) (tC (.int 1)))) "sections") (tLst tNil)))
theorem ok_Course_sections_now (T : Txt K mg A) {sp : Sp} (len : ∀ vs H Q E, sp vs H Q E → vs.length = 1)
    (pure : ∀ vs H Q E, sp vs H Q E → t_Course_sections_now K A { nx := fun _ H' => Q .non H', rt := Q } (start ["self"] vs) H) :
    FnOk P w K mg base CX0 1 A.f_Course_sections_now A.d_Course_sections_now ["self"] sp := by
  refine T.n_Course_sections_now.ok sc_Course_sections_now len (fun cdv A' outer s H vs Q E hr h => ⟨t_Course_sections_now K A, ?_, pure vs H Q E h⟩)
  exact (pss_one (ps_ret (pe_ifExp (pt_cmpR op_gt (pe_callB call_len_seq (by rfl) T.z_len PySem.boot_len (pa_cons (pe_fld (pv 0) rfl) pa_nil)) pe_int (nomark _)) (pe_fld (pe_ix ix_list (pe_fld (pv 0) rfl) (pe_op op_sub (pe_callB call_len_seq (by rfl) T.z_len PySem.boot_len (pa_cons (pe_fld (pv 0) rfl) pa_nil)) pe_int) (fun _ _ => rfl)) rfl) (pe_lst pa_nil))))
def t_Course_without_effect (K : PySem.W.Frag) (A : Ad) : TS :=
  (tRet (tLc (iList K (tFld K (tVar 0) "steps")) (gName 1) (tNot (tB (tFld K (tVar 1) "has_effect"))) (tFld K (tVar 1) "number") [1]))
theorem ok_Course_without_effect (T : Txt K mg A) {sp : Sp} (len : ∀ vs H Q E, sp vs H Q E → vs.length = 1)
    (pure : ∀ vs H Q E, sp vs H Q E → t_Course_without_effect K A { nx := fun _ H' => Q .non H', rt := Q } (start ["self", "step"] vs) H) :
    FnOk P w K mg base CX0 1 A.f_Course_without_effect A.d_Course_without_effect ["self"] sp := by
  refine T.n_Course_without_effect.ok sc_Course_without_effect len (fun cdv A' outer s H vs Q E hr h => ⟨t_Course_without_effect K A, ?_, pure vs H Q E h⟩)
  exact (pss_one (ps_ret (pe_lc (own := [("step", 1)]) (g := gName 1) (by rfl) sc_Course_without_effect.nd (pi_list (pe_fld (pv 0) rfl)) (blkOk_by (own := [("step", 1)]) (N := ["self", "step"]) (sc := defScope s_Course_without_effect) (by decide +kernel)) (fun _ _ _ _ _ => pg_name (i := 1) sc_Course_without_effect.nd rfl (Or.inl rfl)) (fun _ _ _ _ _ => (pts_one (pt_not (pt_val (pe_fld (pv 1) rfl))))) (fun _ _ _ _ _ => (pe_fld (pv 1) rfl)))))
def t_Record_init (K : PySem.W.Frag) (A : Ad) : TS :=
  (tSeq (sFld K (tVar 0) (tLst tNil) "days")
    (sFld K (tVar 0) (tLst tNil) "commands"))
theorem ok_Record_init (T : Txt K mg A) {sp : Sp} (len : ∀ vs H Q E, sp vs H Q E → vs.length = 1)
    (pure : ∀ vs H Q E, sp vs H Q E → t_Record_init K A { nx := fun _ H' => Q .non H', rt := Q } (start ["self"] vs) H) :
    FnOk P w K mg base CX0 1 A.f_Record_init A.d_Record_init ["self"] sp := by
  refine T.n_Record_init.ok sc_Record_init len (fun cdv A' outer s H vs Q E hr h => ⟨t_Record_init K A, ?_, pure vs H Q E h⟩)
  exact (pss_cons (ps_fld (pv 0) (pe_lst pa_nil) rfl)
    (pss_one (ps_fld (pv 0) (pe_lst pa_nil) rfl)))
def t_Record_last_act (K : PySem.W.Frag) (A : Ad) : TS :=
  (tRet (tOp oSub (tCB (oLen K) (tCons (tFld K (tVar 0) "days") tNil)) (tC (.int 1))))
theorem ok_Record_last_act (T : Txt K mg A) {sp : Sp} (len : ∀ vs H Q E, sp vs H Q E → vs.length = 1)
    (pure : ∀ vs H Q E, sp vs H Q E → t_Record_last_act K A { nx := fun _ H' => Q .non H', rt := Q } (start ["self"] vs) H) :
    FnOk P w K mg base CX0 1 A.f_Record_last_act A.d_Record_last_act ["self"] sp := by
  refine T.n_Record_last_act.ok sc_Record_last_act len (fun cdv A' outer s H vs Q E hr h => ⟨t_Record_last_act K A, ?_, pure vs H Q E h⟩)
  exact (pss_one (ps_ret (pe_op op_sub (pe_callB call_len_seq (by rfl) T.z_len PySem.boot_len (pa_cons (pe_fld (pv 0) rfl) pa_nil)) pe_int)))
def t_Record_known_on (K : PySem.W.Frag) (A : Ad) : TS :=
  (tRet (tLc (iList K (tFld K (tVar 0) "commands")) (gName 2) (tTest (tOp oLe (tOp (rIxL K) (tFld K (tVar 0) "days") (tFld K (tVar 2) "act")) (tVar 1))) (tVar 2) [2]))
theorem ok_Record_known_on (T : Txt K mg A) {sp : Sp} (len : ∀ vs H Q E, sp vs H Q E → vs.length = 2)
    (pure : ∀ vs H Q E, sp vs H Q E → t_Record_known_on K A { nx := fun _ H' => Q .non H', rt := Q } (start ["self", "day", "command"] vs) H) :
    FnOk P w K mg base CX0 1 A.f_Record_known_on A.d_Record_known_on ["self", "day"] sp := by
  refine T.n_Record_known_on.ok sc_Record_known_on len (fun cdv A' outer s H vs Q E hr h => ⟨t_Record_known_on K A, ?_, pure vs H Q E h⟩)
  exact (pss_one (ps_ret (pe_lc (own := [("command", 2)]) (g := gName 2) (by rfl) sc_Record_known_on.nd (pi_list (pe_fld (pv 0) rfl)) (blkOk_by (own := [("command", 2)]) (N := ["self", "day", "command"]) (sc := defScope s_Record_known_on) (by decide +kernel)) (fun _ _ _ _ _ => pg_name (i := 2) sc_Record_known_on.nd rfl (Or.inl rfl)) (fun _ _ _ _ _ => (pts_one (pt_cmpR op_le (pe_ix ix_list (pe_fld (pv 0) rfl) (pe_fld (pv 2) rfl) (fun _ _ => rfl)) (pv 1) (nomark _)))) (fun _ _ _ _ _ => (pv 2)))))
def t_counting_on (K : PySem.W.Frag) (A : Ad) : TS :=
  (tRet (tLc (iList K (tVar 0)) (gName 2) (tAnd (tTest (tOp oLe (tFld K (tVar 2) "begins") (tVar 1))) (tOr (tTest (tOp rEq (tFld K (tVar 2) "till") (tC (.int 0)))) (tTest (tOp oLt (tVar 1) (tFld K (tVar 2) "till"))))) (tVar 2) [2]))
theorem ok_counting_on (T : Txt K mg A) {sp : Sp} (len : ∀ vs H Q E, sp vs H Q E → vs.length = 2)
    (pure : ∀ vs H Q E, sp vs H Q E → t_counting_on K A { nx := fun _ H' => Q .non H', rt := Q } (start ["commands", "day", "command"] vs) H) :
    FnOk P w K mg base CX0 1 A.f_counting_on A.d_counting_on ["commands", "day"] sp := by
  refine T.n_counting_on.ok sc_counting_on len (fun cdv A' outer s H vs Q E hr h => ⟨t_counting_on K A, ?_, pure vs H Q E h⟩)
  exact (pss_one (ps_ret (pe_lc (own := [("command", 2)]) (g := gName 2) (by rfl) sc_counting_on.nd (pi_list (pv 0)) (blkOk_by (own := [("command", 2)]) (N := ["commands", "day", "command"]) (sc := defScope s_counting_on) (by decide +kernel)) (fun _ _ _ _ _ => pg_name (i := 2) sc_counting_on.nd rfl (Or.inl rfl)) (fun _ _ _ _ _ => (pts_one (PW.pt (pw_and (pt_cmpR op_le (pe_fld (pv 2) rfl) (pv 1) (nomark _)) (pw_and1 (PW.pt (pw_or (pt_cmpR op_eq (pe_fld (pv 2) rfl) pe_int (nomark _)) (pw_or1 (pt_cmpR op_lt (pv 1) (pe_fld (pv 2) rfl) (nomark _)))))))))) (fun _ _ _ _ _ => (pv 2)))))
def t_days_above (K : PySem.W.Frag) (A : Ad) : TS :=
  (tSeq (tAsg tDNewK (gName 2))
    (tSeq (tFor (iList K (tVar 0)) (gName 3) (tSeq (sDPut (tVar 2) (tFld K (tVar 3) "begins") (tC (.bl true)))
        (sDPut (tVar 2) (tFld K (tVar 3) "till") (tC (.bl true)))))
    (tRet (tCB (rSortedI K) (tCons (tLockE (tLc (iKeys (tVar 2)) (gName 4) (tTest (tOp oGt (tVar 4) (tVar 1))) (tVar 4) [4])) tNil)))))
theorem ok_days_above (T : Txt K mg A) {sp : Sp} (len : ∀ vs H Q E, sp vs H Q E → vs.length = 2)
    (pure : ∀ vs H Q E, sp vs H Q E → t_days_above K A { nx := fun _ H' => Q .non H', rt := Q } (start ["commands", "on", "days", "command", "day"] vs) H) :
    FnOk P w K mg base CX0 1 A.f_days_above A.d_days_above ["commands", "on"] sp := by
  refine T.n_days_above.ok sc_days_above len (fun cdv A' outer s H vs Q E hr h => ⟨t_days_above K A, ?_, pure vs H Q E h⟩)
  exact (pss_cons (ps_set (i := 2) sc_days_above.nd rfl (Or.inl rfl) pe_dnewK)
    (pss_cons (ps_for PassesOwn.never rfl (pi_list (pv 0)) (pg_name (i := 3) sc_days_above.nd rfl (Or.inl rfl)) (pss_cons (ps_dput (hu_of hr) (pv 2) (pe_fld (pv 3) rfl) pe_bl rfl)
        (pss_one (ps_dput (hu_of hr) (pv 2) (pe_fld (pv 3) rfl) pe_bl rfl))))
    (pss_one (ps_ret (pe_callB cr_sortedI (by rfl) T.z_sorted (by decide +kernel) (pa_cons (pe_lock (pe_lc (own := [("day", 4)]) (g := gName 4) (by rfl) sc_days_above.nd (pi_keys (pv 2)) (blkOk_by (own := [("day", 4)]) (N := ["commands", "on", "days", "command", "day"]) (sc := defScope s_days_above) (by decide +kernel)) (fun _ _ _ _ _ => pg_name (i := 4) sc_days_above.nd rfl (Or.inl rfl)) (fun _ _ _ _ _ => (pts_one (pt_cmpR op_gt (pv 4) (pv 1) (nomark _)))) (fun _ _ _ _ _ => (pv 4)))) pa_nil))))))
def t_with_size (K : PySem.W.Frag) (A : Ad) : TS :=
  (tRet (tOp rCat (tLst (tCons (tCB (oLen K) (tCons (tVar 0) tNil)) tNil)) (tVar 0)))
theorem ok_with_size (T : Txt K mg A) {sp : Sp} (len : ∀ vs H Q E, sp vs H Q E → vs.length = 1)
    (pure : ∀ vs H Q E, sp vs H Q E → t_with_size K A { nx := fun _ H' => Q .non H', rt := Q } (start ["row"] vs) H) :
    FnOk P w K mg base CX0 1 A.f_with_size A.d_with_size ["row"] sp := by
  refine T.n_with_size.ok sc_with_size len (fun cdv A' outer s H vs Q E hr h => ⟨t_with_size K A, ?_, pure vs H Q E h⟩)
  exact (pss_one (ps_ret (pe_op op_cat (pe_lst (pa_cons (pe_callB call_len_seq (by rfl) T.z_len PySem.boot_len (pa_cons (pv 0) pa_nil)) pa_nil)) (pv 0))))
def t_rows_of (K : PySem.W.Frag) (A : Ad) : TS :=
  (tSeq (tAsg (tLst tNil) (gName 1))
    (tSeq (tAsg (tC (.int 0)) (gName 2))
    (tSeq (tFor (iEnum K (tCons (tVar 0) tNil)) (gTup K 2 (gCons (gName 3) (gCons (gName 4) gNil))) (tSeq (tAsg (tOp oAdd (tVar 2) (tC (.int 1))) (gName 2))
        (tIfS (tOr (tTest (tOp rEq (tOp oAdd (tVar 3) (tC (.int 1))) (tCB (oLen K) (tCons (tVar 0) tNil)))) (tTest (tOp rNe (tOp (rIxL K) (tVar 0) (tOp oAdd (tVar 3) (tC (.int 1)))) (tVar 4)))) (tSeq (tDrop (tBM K "list" rAppend (tVar 1) (tCons (tVar 2) tNil)))
            (tSeq (tDrop (tBM K "list" rAppend (tVar 1) (tCons (tVar 4) tNil)))
            (tAsg (tC (.int 0)) (gName 2)))) tNext)))
    (tRet (tVar 1)))))
theorem ok_rows_of (T : Txt K mg A) {sp : Sp} (len : ∀ vs H Q E, sp vs H Q E → vs.length = 1)
    (pure : ∀ vs H Q E, sp vs H Q E → t_rows_of K A { nx := fun _ H' => Q .non H', rt := Q } (start ["owners", "rows", "size", "place", "owner"] vs) H) :
    FnOk P w K mg base CX0 1 A.f_rows_of A.d_rows_of ["owners"] sp := by
  refine T.n_rows_of.ok sc_rows_of len (fun cdv A' outer s H vs Q E hr h => ⟨t_rows_of K A, ?_, pure vs H Q E h⟩)
  exact (pss_cons (ps_set (i := 1) sc_rows_of.nd rfl (Or.inl rfl) (pe_lst pa_nil))
    (pss_cons (ps_set (i := 2) sc_rows_of.nd rfl (Or.inl rfl) pe_int)
    (pss_cons (ps_for PassesOwn.never rfl (pi_enum (by rfl) T.z_enumerate (pa_cons (pv 0) pa_nil)) (pg_tup rfl (pgs_cons (pg_name (i := 3) sc_rows_of.nd rfl (Or.inl rfl)) (pgs_cons (pg_name (i := 4) sc_rows_of.nd rfl (Or.inl rfl)) pgs_nil))) (pss_cons (ps_set (i := 2) sc_rows_of.nd rfl (Or.inl rfl) (pe_op op_add (pv 2) pe_int))
        (pss_one (ps_if (PW.pt (pw_or (pt_cmpR op_eq (pe_op op_add (pv 3) pe_int) (pe_callB call_len_seq (by rfl) T.z_len PySem.boot_len (pa_cons (pv 0) pa_nil)) (nomark _)) (pw_or1 (pt_cmpR op_ne (pe_ix ix_list (pv 0) (pe_op op_add (pv 3) pe_int) (fun _ _ => rfl)) (pv 4) (nomark _))))) (pss_cons (ps_expr (pe_bm PySem.F.plainAttrs_list PySem.F.slot_list_append PySem.F.type_list_append mt_append (pv 1) (pa_cons (pv 2) pa_nil)))
            (pss_cons (ps_expr (pe_bm PySem.F.plainAttrs_list PySem.F.slot_list_append PySem.F.type_list_append mt_append (pv 1) (pa_cons (pv 4) pa_nil)))
            (pss_one (ps_set (i := 2) sc_rows_of.nd rfl (Or.inl rfl) pe_int)))) pss_nil))))
    (pss_one (ps_ret (pv 1))))))
def t_Reader_init (K : PySem.W.Frag) (A : Ad) : TS :=
  (tSeq (sFld K (tVar 0) (tVar 1) "numbers")
    (sFld K (tVar 0) (tC (.int 0)) "place"))
theorem ok_Reader_init (T : Txt K mg A) {sp : Sp} (len : ∀ vs H Q E, sp vs H Q E → vs.length = 2)
    (pure : ∀ vs H Q E, sp vs H Q E → t_Reader_init K A { nx := fun _ H' => Q .non H', rt := Q } (start ["self", "numbers"] vs) H) :
    FnOk P w K mg base CX0 1 A.f_Reader_init A.d_Reader_init ["self", "numbers"] sp := by
  refine T.n_Reader_init.ok sc_Reader_init len (fun cdv A' outer s H vs Q E hr h => ⟨t_Reader_init K A, ?_, pure vs H Q E h⟩)
  exact (pss_cons (ps_fld (pv 0) (pv 1) rfl)
    (pss_one (ps_fld (pv 0) pe_int rfl)))
def t_Reader_has_more (K : PySem.W.Frag) (A : Ad) : TS :=
  (tRet (tOp oLt (tFld K (tVar 0) "place") (tCB (oLen K) (tCons (tFld K (tVar 0) "numbers") tNil))))
theorem ok_Reader_has_more (T : Txt K mg A) {sp : Sp} (len : ∀ vs H Q E, sp vs H Q E → vs.length = 1)
    (pure : ∀ vs H Q E, sp vs H Q E → t_Reader_has_more K A { nx := fun _ H' => Q .non H', rt := Q } (start ["self"] vs) H) :
    FnOk P w K mg base CX0 1 A.f_Reader_has_more A.d_Reader_has_more ["self"] sp := by
  refine T.n_Reader_has_more.ok sc_Reader_has_more len (fun cdv A' outer s H vs Q E hr h => ⟨t_Reader_has_more K A, ?_, pure vs H Q E h⟩)
  exact (pss_one (ps_ret (pe_cmpR op_lt (pe_fld (pv 0) rfl) (pe_callB call_len_seq (by rfl) T.z_len PySem.boot_len (pa_cons (pe_fld (pv 0) rfl) pa_nil)) (nomark _))))
def t_Reader_next_number (K : PySem.W.Frag) (A : Ad) : TS :=
  (tSeq (tAsg (tOp (rIxL K) (tFld K (tVar 0) "numbers") (tFld K (tVar 0) "place")) (gName 1))
    (tSeq (sFld K (tVar 0) (tOp oAdd (tFld K (tVar 0) "place") (tC (.int 1))) "place")
    (tRet (tVar 1))))
theorem ok_Reader_next_number (T : Txt K mg A) {sp : Sp} (len : ∀ vs H Q E, sp vs H Q E → vs.length = 1)
    (pure : ∀ vs H Q E, sp vs H Q E → t_Reader_next_number K A { nx := fun _ H' => Q .non H', rt := Q } (start ["self", "number"] vs) H) :
    FnOk P w K mg base CX0 1 A.f_Reader_next_number A.d_Reader_next_number ["self"] sp := by
  refine T.n_Reader_next_number.ok sc_Reader_next_number len (fun cdv A' outer s H vs Q E hr h => ⟨t_Reader_next_number K A, ?_, pure vs H Q E h⟩)
  exact (pss_cons (ps_set (i := 1) sc_Reader_next_number.nd rfl (Or.inl rfl) (pe_ix ix_list (pe_fld (pv 0) rfl) (pe_fld (pv 0) rfl) (fun _ _ => rfl)))
    (pss_cons (ps_fld (pv 0) (pe_op op_add (pe_fld (pv 0) rfl) pe_int) rfl)
    (pss_one (ps_ret (pv 1)))))
def t_is_span (K : PySem.W.Frag) (A : Ad) (sp_is_day : Sp) : TS :=
  (tSeq (tIfS (tNot (tB (tCall sp_is_day [] E0 (tCons (tVar 0) tNil)))) (tRet (tC (.bl false))) tNext)
    (tRet (tOrV (tOp rEq (tVar 1) (tC (.int 0))) (tAndV (tOp oGt (tVar 1) (tVar 0)) (tCall sp_is_day [] E0 (tCons (tVar 1) tNil))))))
theorem ok_is_span (T : Txt K mg A) {sp_is_day : Sp} (G_is_day : FnOk P w K mg base CX0 1 A.f_is_day A.d_is_day ["day"] sp_is_day) {sp : Sp} (len : ∀ vs H Q E, sp vs H Q E → vs.length = 2)
    (pure : ∀ vs H Q E, sp vs H Q E → t_is_span K A sp_is_day { nx := fun _ H' => Q .non H', rt := Q } (start ["begins", "till"] vs) H) :
    FnOk P w K mg base CX0 2 A.f_is_span A.d_is_span ["begins", "till"] sp := by
  refine T.n_is_span.ok sc_is_span len (fun cdv A' outer s H vs Q E hr h => ⟨t_is_span K A sp_is_day, ?_, pure vs H Q E h⟩)
  exact (pss_cons (ps_if (pt_not (pt_val (pe_call G_is_day (hr.mono (by decide)) rfl T.g_is_day T.n_is_day.kp T.b_is_day .nil pass0 (pa_cons (pv 0) pa_nil)))) (pss_one (ps_ret pe_bl)) pss_nil)
    (pss_one (ps_ret (pe_or (pe_cmpR op_eq (pv 1) pe_int (nomark _)) (pe_one (pe_and (pe_cmpR op_gt (pv 1) (pv 0) (nomark _)) (pe_one (pe_call G_is_day (hr.mono (by decide)) rfl T.g_is_day T.n_is_day.kp T.b_is_day .nil pass0 (pa_cons (pv 1) pa_nil)))))))))
def t_is_label_byte (K : PySem.W.Frag) (A : Ad) (sp_is_text_byte : Sp) : TS :=
  (tRet (tAndV (tCall sp_is_text_byte [] E0 (tCons (tVar 0) tNil)) (tAndV (tOp rNe (tVar 0) (tC (.int (32)))) (tAndV (tOp rNe (tVar 0) (tC (.int (91)))) (tOp rNe (tVar 0) (tC (.int (93))))))))
theorem ok_is_label_byte (T : Txt K mg A) {sp_is_text_byte : Sp} (G_is_text_byte : FnOk P w K mg base CX0 1 A.f_is_text_byte A.d_is_text_byte ["byte"] sp_is_text_byte) {sp : Sp} (len : ∀ vs H Q E, sp vs H Q E → vs.length = 1)
    (pure : ∀ vs H Q E, sp vs H Q E → t_is_label_byte K A sp_is_text_byte { nx := fun _ H' => Q .non H', rt := Q } (start ["byte"] vs) H) :
    FnOk P w K mg base CX0 2 A.f_is_label_byte A.d_is_label_byte ["byte"] sp := by
  refine T.n_is_label_byte.ok sc_is_label_byte len (fun cdv A' outer s H vs Q E hr h => ⟨t_is_label_byte K A sp_is_text_byte, ?_, pure vs H Q E h⟩)
  exact (pss_one (ps_ret (pe_and (pe_call G_is_text_byte (hr.mono (by decide)) rfl T.g_is_text_byte T.n_is_text_byte.kp T.b_is_text_byte .nil pass0 (pa_cons (pv 0) pa_nil)) (pe_and (pe_cmpR op_ne (pv 0) (pe_glob rfl T.g_BLANK.choose_spec ⟨_, rfl⟩) (nomark _)) (pe_and (pe_cmpR op_ne (pv 0) (pe_glob rfl T.g_LEFT_BRACKET.choose_spec ⟨_, rfl⟩) (nomark _)) (pe_one (pe_cmpR op_ne (pv 0) (pe_glob rfl T.g_RIGHT_BRACKET.choose_spec ⟨_, rfl⟩) (nomark _))))))))
def t_is_text (K : PySem.W.Frag) (A : Ad) (sp_is_text_byte : Sp) : TS :=
  (tSeq (tIfS (tTest (tOp oGt (tCB (oLen K) (tCons (tVar 0) tNil)) (tC (.int (1024))))) (tRet (tC (.bl false))) tNext)
    (tSeq (tFor (iList K (tVar 0)) (gName 1) (tIfS (tNot (tB (tCall sp_is_text_byte [] E0 (tCons (tVar 1) tNil)))) (tRet (tC (.bl false))) tNext))
    (tRet (tC (.bl true)))))
theorem ok_is_text (T : Txt K mg A) {sp_is_text_byte : Sp} (G_is_text_byte : FnOk P w K mg base CX0 1 A.f_is_text_byte A.d_is_text_byte ["byte"] sp_is_text_byte) {sp : Sp} (len : ∀ vs H Q E, sp vs H Q E → vs.length = 1)
    (pure : ∀ vs H Q E, sp vs H Q E → t_is_text K A sp_is_text_byte { nx := fun _ H' => Q .non H', rt := Q } (start ["row", "byte"] vs) H) :
    FnOk P w K mg base CX0 2 A.f_is_text A.d_is_text ["row"] sp := by
  refine T.n_is_text.ok sc_is_text len (fun cdv A' outer s H vs Q E hr h => ⟨t_is_text K A sp_is_text_byte, ?_, pure vs H Q E h⟩)
  exact (pss_cons (ps_if (pt_cmpR op_gt (pe_callB call_len_seq (by rfl) T.z_len PySem.boot_len (pa_cons (pv 0) pa_nil)) (pe_glob rfl T.g_MOST_TEXT_BYTES.choose_spec ⟨_, rfl⟩) (nomark _)) (pss_one (ps_ret pe_bl)) pss_nil)
    (pss_cons (ps_for PassesOwn.never rfl (pi_list (pv 0)) (pg_name (i := 1) sc_is_text.nd rfl (Or.inl rfl)) (pss_one (ps_if (pt_not (pt_val (pe_call G_is_text_byte (hr.mono (by decide)) rfl T.g_is_text_byte T.n_is_text_byte.kp T.b_is_text_byte .nil pass0 (pa_cons (pv 1) pa_nil)))) (pss_one (ps_ret pe_bl)) pss_nil)))
    (pss_one (ps_ret pe_bl))))
def t_Record_keep (K : PySem.W.Frag) (A : Ad) (sp_Record_last_act : Sp) : TS :=
  (tSeq (tIfS (tTest (tOp rEq (tCB (oLen K) (tCons (tFld K (tVar 0) "days") tNil)) (tC (.int 0)))) (tRet (tC (.int (-2)))) tNext)
    (tSeq (tIfS (tTest (tOp rEq (tCB (oLen K) (tCons (tFld K (tVar 0) "commands") tNil)) (tC (.int (1024))))) (tRet (tC (.int (-28)))) tNext)
    (tSeq (sFld K (tVar 1) (tMeth A.c_Record "last_act" sp_Record_last_act [] E0 (tVar 0) tNil) "act")
    (tSeq (sFld K (tVar 1) (tCB (oLen K) (tCons (tFld K (tVar 0) "commands") tNil)) "number")
    (tSeq (tDrop (tBM K "list" rAppend (tFld K (tVar 0) "commands") (tCons (tVar 1) tNil)))
    (tRet (tFld K (tVar 1) "number")))))))
theorem ok_Record_keep (T : Txt K mg A) {sp_Record_last_act : Sp} (G_Record_last_act : FnOk P w K mg base CX0 1 A.f_Record_last_act A.d_Record_last_act ["self"] sp_Record_last_act) {sp : Sp} (len : ∀ vs H Q E, sp vs H Q E → vs.length = 2)
    (pure : ∀ vs H Q E, sp vs H Q E → t_Record_keep K A sp_Record_last_act { nx := fun _ H' => Q .non H', rt := Q } (start ["self", "command"] vs) H) :
    FnOk P w K mg base CX0 2 A.f_Record_keep A.d_Record_keep ["self", "command"] sp := by
  refine T.n_Record_keep.ok sc_Record_keep len (fun cdv A' outer s H vs Q E hr h => ⟨t_Record_keep K A sp_Record_last_act, ?_, pure vs H Q E h⟩)
  exact (pss_cons (ps_if (pt_cmpR op_eq (pe_callB call_len_seq (by rfl) T.z_len PySem.boot_len (pa_cons (pe_fld (pv 0) rfl) pa_nil)) pe_int (nomark _)) (pss_one (ps_ret (pe_glob rfl T.g_NO_ACT.choose_spec ⟨_, rfl⟩))) pss_nil)
    (pss_cons (ps_if (pt_cmpR op_eq (pe_callB call_len_seq (by rfl) T.z_len PySem.boot_len (pa_cons (pe_fld (pv 0) rfl) pa_nil)) (pe_glob rfl T.g_MOST_COMMANDS.choose_spec ⟨_, rfl⟩) (nomark _)) (pss_one (ps_ret (pe_glob rfl T.g_FULL.choose_spec ⟨_, rfl⟩))) pss_nil)
    (pss_cons (ps_fld (pv 1) (pe_meth0 (pv 0) T.cl_Record T.m_Record_last_act G_Record_last_act (hr.mono (by decide)) T.b_Record_last_act .nil pass0) rfl)
    (pss_cons (ps_fld (pv 1) (pe_callB call_len_seq (by rfl) T.z_len PySem.boot_len (pa_cons (pe_fld (pv 0) rfl) pa_nil)) rfl)
    (pss_cons (ps_expr (pe_bm PySem.F.plainAttrs_list PySem.F.slot_list_append PySem.F.type_list_append mt_append (pe_fld (pv 0) rfl) (pa_cons (pv 1) pa_nil)))
    (pss_one (ps_ret (pe_fld (pv 1) rfl))))))))
def t_Record_is_before_last_act (K : PySem.W.Frag) (A : Ad) (sp_Record_last_act : Sp) : TS :=
  (tRet (tAndV (tOp oGt (tCB (oLen K) (tCons (tFld K (tVar 0) "days") tNil)) (tC (.int 0))) (tOp oLt (tVar 1) (tOp (rIxL K) (tFld K (tVar 0) "days") (tMeth A.c_Record "last_act" sp_Record_last_act [] E0 (tVar 0) tNil)))))
theorem ok_Record_is_before_last_act (T : Txt K mg A) {sp_Record_last_act : Sp} (G_Record_last_act : FnOk P w K mg base CX0 1 A.f_Record_last_act A.d_Record_last_act ["self"] sp_Record_last_act) {sp : Sp} (len : ∀ vs H Q E, sp vs H Q E → vs.length = 2)
    (pure : ∀ vs H Q E, sp vs H Q E → t_Record_is_before_last_act K A sp_Record_last_act { nx := fun _ H' => Q .non H', rt := Q } (start ["self", "day"] vs) H) :
    FnOk P w K mg base CX0 2 A.f_Record_is_before_last_act A.d_Record_is_before_last_act ["self", "day"] sp := by
  refine T.n_Record_is_before_last_act.ok sc_Record_is_before_last_act len (fun cdv A' outer s H vs Q E hr h => ⟨t_Record_is_before_last_act K A sp_Record_last_act, ?_, pure vs H Q E h⟩)
  exact (pss_one (ps_ret (pe_and (pe_cmpR op_gt (pe_callB call_len_seq (by rfl) T.z_len PySem.boot_len (pa_cons (pe_fld (pv 0) rfl) pa_nil)) pe_int (nomark _)) (pe_one (pe_cmpR op_lt (pv 1) (pe_ix ix_list (pe_fld (pv 0) rfl) (pe_meth0 (pv 0) T.cl_Record T.m_Record_last_act G_Record_last_act (hr.mono (by decide)) T.b_Record_last_act .nil pass0) (fun _ _ => rfl)) (nomark _))))))
def t_Record_valid_on (K : PySem.W.Frag) (A : Ad) (sp_Record_known_on : Sp) : TS :=
  (tSeq (tAsg (tMeth A.c_Record "known_on" sp_Record_known_on [] E0 (tVar 0) (tCons (tVar 1) tNil)) (gName 2))
    (tSeq (tAsg tDNewK (gName 3))
    (tSeq (tFor (iRev K (tCons (tVar 2) tNil)) (gName 4) (tIfS (tAnd (tTest (tOp rEq (tFld K (tVar 4) "kind") (tC (.int (7))))) (tB (tDNotIn (tFld K (tVar 4) "number") (tVar 3)))) (sDPut (tVar 3) (tFld K (tVar 4) "target") (tC (.bl true))) tNext))
    (tRet (tLc (iList K (tVar 2)) (gName 4) (tAnd (tTest (tOp rNe (tFld K (tVar 4) "kind") (tC (.int (7))))) (tB (tDNotIn (tFld K (tVar 4) "number") (tVar 3)))) (tVar 4) [4])))))
theorem ok_Record_valid_on (T : Txt K mg A) {sp_Record_known_on : Sp} (G_Record_known_on : FnOk P w K mg base CX0 1 A.f_Record_known_on A.d_Record_known_on ["self", "day"] sp_Record_known_on) {sp : Sp} (len : ∀ vs H Q E, sp vs H Q E → vs.length = 2)
    (pure : ∀ vs H Q E, sp vs H Q E → t_Record_valid_on K A sp_Record_known_on { nx := fun _ H' => Q .non H', rt := Q } (start ["self", "day", "known", "void", "command"] vs) H) :
    FnOk P w K mg base CX0 2 A.f_Record_valid_on A.d_Record_valid_on ["self", "day"] sp := by
  refine T.n_Record_valid_on.ok sc_Record_valid_on len (fun cdv A' outer s H vs Q E hr h => ⟨t_Record_valid_on K A sp_Record_known_on, ?_, pure vs H Q E h⟩)
  exact (pss_cons (ps_set (i := 2) sc_Record_valid_on.nd rfl (Or.inl rfl) (pe_meth (pv 0) T.cl_Record T.m_Record_known_on G_Record_known_on (hr.mono (by decide)) T.b_Record_known_on .nil pass0 (pa_cons (pv 1) pa_nil)))
    (pss_cons (ps_set (i := 3) sc_Record_valid_on.nd rfl (Or.inr rfl) pe_dnewK)
    (pss_cons (ps_for PassesOwn.never rfl (pi_reversed (by rfl) T.z_reversed (pa_cons (pv 2) pa_nil)) (pg_name (i := 4) sc_Record_valid_on.nd rfl (Or.inl rfl)) (pss_one (ps_if (PW.pt (pw_and (pt_cmpR op_eq (pe_fld (pv 4) rfl) (pe_glob rfl T.g_VOID.choose_spec ⟨_, rfl⟩) (nomark _)) (pw_and1 (pt_cmp (pc_dnotin (hu_of hr) (pe_fld (pv 4) rfl) (pv 3)))))) (pss_one (ps_dput (hu_of hr) (pv 3) (pe_fld (pv 4) rfl) pe_bl rfl)) pss_nil)))
    (pss_one (ps_ret (pe_lc (own := [("command", 4)]) (g := gName 4) (by rfl) sc_Record_valid_on.nd (pi_list (pv 2)) (blkOk_by (own := [("command", 4)]) (N := ["self", "day", "known", "void", "command"]) (sc := defScope s_Record_valid_on) (by decide +kernel)) (fun _ _ _ _ _ => pg_name (i := 4) sc_Record_valid_on.nd rfl (Or.inl rfl)) (fun _ _ _ _ _ => (pts_one (PW.pt (pw_and (pt_cmpR op_ne (pe_fld (pv 4) rfl) (pe_glob rfl T.g_VOID.choose_spec ⟨_, rfl⟩) (nomark _)) (pw_and1 (pt_cmp (pc_dnotin (hu_of hr) (pe_fld (pv 4) rfl) (pv 3)))))))) (fun _ _ _ _ _ => (pv 4))))))))
def t_is_askable (K : PySem.W.Frag) (A : Ad) (sp_is_day sp_is_law : Sp) : TS :=
  (tRet (tAndV (tCall sp_is_law [] E0 (tCons (tVar 0) tNil)) (tAndV (tCall sp_is_day [] E0 (tCons (tVar 1) tNil)) (tCall sp_is_day [] E0 (tCons (tVar 2) tNil)))))
theorem ok_is_askable (T : Txt K mg A) {sp_is_day : Sp} (G_is_day : FnOk P w K mg base CX0 1 A.f_is_day A.d_is_day ["day"] sp_is_day) {sp_is_law : Sp} (G_is_law : FnOk P w K mg base CX0 1 A.f_is_law A.d_is_law ["law"] sp_is_law) {sp : Sp} (len : ∀ vs H Q E, sp vs H Q E → vs.length = 3)
    (pure : ∀ vs H Q E, sp vs H Q E → t_is_askable K A sp_is_day sp_is_law { nx := fun _ H' => Q .non H', rt := Q } (start ["law", "on", "known"] vs) H) :
    FnOk P w K mg base CX0 2 A.f_is_askable A.d_is_askable ["law", "on", "known"] sp := by
  refine T.n_is_askable.ok sc_is_askable len (fun cdv A' outer s H vs Q E hr h => ⟨t_is_askable K A sp_is_day sp_is_law, ?_, pure vs H Q E h⟩)
  exact (pss_one (ps_ret (pe_and (pe_call G_is_law (hr.mono (by decide)) rfl T.g_is_law T.n_is_law.kp T.b_is_law .nil pass0 (pa_cons (pv 0) pa_nil)) (pe_and (pe_call G_is_day (hr.mono (by decide)) rfl T.g_is_day T.n_is_day.kp T.b_is_day .nil pass0 (pa_cons (pv 1) pa_nil)) (pe_one (pe_call G_is_day (hr.mono (by decide)) rfl T.g_is_day T.n_is_day.kp T.b_is_day .nil pass0 (pa_cons (pv 2) pa_nil)))))))
def t_find_section (K : PySem.W.Frag) (A : Ad) (sp_place_of : Sp) : TS :=
  (tSeq (tAsg (tCall sp_place_of [] E0 (tCons (tVar 0) (tCons (tVar 1) tNil))) (gName 2))
    (tRet (tIf (tB (tIsN (tVar 2))) (tC .non) (tOp (rIxL K) (tVar 0) (tVar 2)))))
theorem ok_find_section (T : Txt K mg A) {sp_place_of : Sp} (G_place_of : FnOk P w K mg base CX0 1 A.f_place_of A.d_place_of ["sections", "label"] sp_place_of) {sp : Sp} (len : ∀ vs H Q E, sp vs H Q E → vs.length = 2)
    (pure : ∀ vs H Q E, sp vs H Q E → t_find_section K A sp_place_of { nx := fun _ H' => Q .non H', rt := Q } (start ["sections", "label", "place"] vs) H) :
    FnOk P w K mg base CX0 2 A.f_find_section A.d_find_section ["sections", "label"] sp := by
  refine T.n_find_section.ok sc_find_section len (fun cdv A' outer s H vs Q E hr h => ⟨t_find_section K A sp_place_of, ?_, pure vs H Q E h⟩)
  exact (pss_cons (ps_set (i := 2) sc_find_section.nd rfl (Or.inl rfl) (pe_call G_place_of (hr.mono (by decide)) rfl T.g_place_of T.n_place_of.kp T.b_place_of .nil pass0 (pa_cons (pv 0) (pa_cons (pv 1) pa_nil))))
    (pss_one (ps_ret (pe_ifExp (pt_cmp (pc_isN (pv 2))) pe_non (pe_ix ix_list (pv 0) (pv 2) (fun _ _ => rfl))))))
def t_Reader_next_row (K : PySem.W.Frag) (A : Ad) (sp_Reader_next_number : Sp) : TS :=
  (tSeq (tAsg (tMeth A.c_Reader "next_number" sp_Reader_next_number [] E0 (tVar 0) tNil) (gName 1))
    (tSeq (tAsg (tSl (rSlL K) (tFld K (tVar 0) "numbers") (tPart (tFld K (tVar 0) "place")) (tPart (tOp oAdd (tFld K (tVar 0) "place") (tVar 1)))) (gName 2))
    (tSeq (sFld K (tVar 0) (tOp oAdd (tFld K (tVar 0) "place") (tVar 1)) "place")
    (tRet (tVar 2)))))
theorem ok_Reader_next_row (T : Txt K mg A) {sp_Reader_next_number : Sp} (G_Reader_next_number : FnOk P w K mg base CX0 1 A.f_Reader_next_number A.d_Reader_next_number ["self"] sp_Reader_next_number) {sp : Sp} (len : ∀ vs H Q E, sp vs H Q E → vs.length = 1)
    (pure : ∀ vs H Q E, sp vs H Q E → t_Reader_next_row K A sp_Reader_next_number { nx := fun _ H' => Q .non H', rt := Q } (start ["self", "size", "row"] vs) H) :
    FnOk P w K mg base CX0 2 A.f_Reader_next_row A.d_Reader_next_row ["self"] sp := by
  refine T.n_Reader_next_row.ok sc_Reader_next_row len (fun cdv A' outer s H vs Q E hr h => ⟨t_Reader_next_row K A sp_Reader_next_number, ?_, pure vs H Q E h⟩)
  exact (pss_cons (ps_set (i := 1) sc_Reader_next_row.nd rfl (Or.inl rfl) (pe_meth0 (pv 0) T.cl_Reader T.m_Reader_next_number G_Reader_next_number (hr.mono (by decide)) T.b_Reader_next_number .nil pass0))
    (pss_cons (ps_set (i := 2) sc_Reader_next_row.nd rfl (Or.inl rfl) (pe_slice sl_list (pe_fld (pv 0) rfl) (po_some (pe_fld (pv 0) rfl)) (po_some (pe_op op_add (pe_fld (pv 0) rfl) (pv 1)))))
    (pss_cons (ps_fld (pv 0) (pe_op op_add (pe_fld (pv 0) rfl) (pv 1)) rfl)
    (pss_one (ps_ret (pv 2))))))
def t_is_label (K : PySem.W.Frag) (A : Ad) (sp_is_label_byte : Sp) : TS :=
  (tSeq (tIfS (tOr (tTest (tOp rEq (tCB (oLen K) (tCons (tVar 0) tNil)) (tC (.int 0)))) (tTest (tOp oGt (tCB (oLen K) (tCons (tVar 0) tNil)) (tC (.int (16)))))) (tRet (tC (.bl false))) tNext)
    (tSeq (tFor (iList K (tVar 0)) (gName 1) (tIfS (tNot (tB (tCall sp_is_label_byte [] E0 (tCons (tVar 1) tNil)))) (tRet (tC (.bl false))) tNext))
    (tRet (tC (.bl true)))))
theorem ok_is_label (T : Txt K mg A) {sp_is_label_byte : Sp} (G_is_label_byte : FnOk P w K mg base CX0 2 A.f_is_label_byte A.d_is_label_byte ["byte"] sp_is_label_byte) {sp : Sp} (len : ∀ vs H Q E, sp vs H Q E → vs.length = 1)
    (pure : ∀ vs H Q E, sp vs H Q E → t_is_label K A sp_is_label_byte { nx := fun _ H' => Q .non H', rt := Q } (start ["row", "byte"] vs) H) :
    FnOk P w K mg base CX0 3 A.f_is_label A.d_is_label ["row"] sp := by
  refine T.n_is_label.ok sc_is_label len (fun cdv A' outer s H vs Q E hr h => ⟨t_is_label K A sp_is_label_byte, ?_, pure vs H Q E h⟩)
  exact (pss_cons (ps_if (PW.pt (pw_or (pt_cmpR op_eq (pe_callB call_len_seq (by rfl) T.z_len PySem.boot_len (pa_cons (pv 0) pa_nil)) pe_int (nomark _)) (pw_or1 (pt_cmpR op_gt (pe_callB call_len_seq (by rfl) T.z_len PySem.boot_len (pa_cons (pv 0) pa_nil)) (pe_glob rfl T.g_MOST_LABEL_BYTES.choose_spec ⟨_, rfl⟩) (nomark _))))) (pss_one (ps_ret pe_bl)) pss_nil)
    (pss_cons (ps_for PassesOwn.never rfl (pi_list (pv 0)) (pg_name (i := 1) sc_is_label.nd rfl (Or.inl rfl)) (pss_one (ps_if (pt_not (pt_val (pe_call G_is_label_byte (hr.mono (by decide)) rfl T.g_is_label_byte T.n_is_label_byte.kp T.b_is_label_byte .nil pass0 (pa_cons (pv 1) pa_nil)))) (pss_one (ps_ret pe_bl)) pss_nil)))
    (pss_one (ps_ret pe_bl))))
def t_is_old (K : PySem.W.Frag) (A : Ad) (sp_is_text : Sp) : TS :=
  (tRet (tAndV (tOp oGt (tCB (oLen K) (tCons (tVar 0) tNil)) (tC (.int 0))) (tCall sp_is_text [] E0 (tCons (tVar 0) tNil))))
theorem ok_is_old (T : Txt K mg A) {sp_is_text : Sp} (G_is_text : FnOk P w K mg base CX0 2 A.f_is_text A.d_is_text ["row"] sp_is_text) {sp : Sp} (len : ∀ vs H Q E, sp vs H Q E → vs.length = 1)
    (pure : ∀ vs H Q E, sp vs H Q E → t_is_old K A sp_is_text { nx := fun _ H' => Q .non H', rt := Q } (start ["old"] vs) H) :
    FnOk P w K mg base CX0 3 A.f_is_old A.d_is_old ["old"] sp := by
  refine T.n_is_old.ok sc_is_old len (fun cdv A' outer s H vs Q E hr h => ⟨t_is_old K A sp_is_text, ?_, pure vs H Q E h⟩)
  exact (pss_one (ps_ret (pe_and (pe_cmpR op_gt (pe_callB call_len_seq (by rfl) T.z_len PySem.boot_len (pa_cons (pv 0) pa_nil)) pe_int (nomark _)) (pe_one (pe_call G_is_text (hr.mono (by decide)) rfl T.g_is_text T.n_is_text.kp T.b_is_text .nil pass0 (pa_cons (pv 0) pa_nil))))))
def t_new_section (K : PySem.W.Frag) (A : Ad) (sp_Section_init : Sp) : TS :=
  (tRet (tMake A.c_Section sp_Section_init [] E0 (tCons (tVar 0) (tCons (tVar 1) (tCons (tOp rRep (tLst (tCons (tVar 2) tNil)) (tCB (oLen K) (tCons (tVar 1) tNil))) tNil)))))
theorem ok_new_section (T : Txt K mg A) {sp_Section_init : Sp} (G_Section_init : FnOk P w K mg base CX0 1 A.f_Section_init A.d_Section_init ["self", "label", "text", "owners"] sp_Section_init) {sp : Sp} (len : ∀ vs H Q E, sp vs H Q E → vs.length = 3)
    (pure : ∀ vs H Q E, sp vs H Q E → t_new_section K A sp_Section_init { nx := fun _ H' => Q .non H', rt := Q } (start ["label", "text", "owner"] vs) H) :
    FnOk P w K mg base CX0 3 A.f_new_section A.d_new_section ["label", "text", "owner"] sp := by
  refine T.n_new_section.ok sc_new_section len (fun cdv A' outer s H vs Q E hr h => ⟨t_new_section K A sp_Section_init, ?_, pure vs H Q E h⟩)
  exact (pss_one (ps_ret (pe_make T.mk_Section G_Section_init (hr.mono (by decide)) rfl T.g_Section T.b_Section_init .nil pass0 (pa_cons (pv 0) (pa_cons (pv 1) (pa_cons (pe_op op_rep (pe_lst (pa_cons (pv 2) pa_nil)) (pe_callB call_len_seq (by rfl) T.z_len PySem.boot_len (pa_cons (pv 1) pa_nil))) pa_nil))))))
def t_exchange (K : PySem.W.Frag) (A : Ad) (sp_Section_init : Sp) : TS :=
  (tSeq (tAsg (tLst tNil) (gName 5))
    (tSeq (tAsg (tLst tNil) (gName 6))
    (tSeq (tAsg (tC (.int 0)) (gName 7))
    (tSeq (tFor (iList K (tVar 1)) (gName 8) (tSeq (tDrop (tBM K "list" rExtend (tVar 5) (tCons (tSl (rSlL K) (tFld K (tVar 0) "text") (tPart (tVar 7)) (tPart (tVar 8))) tNil)))
        (tSeq (tDrop (tBM K "list" rExtend (tVar 5) (tCons (tVar 3) tNil)))
        (tSeq (tDrop (tBM K "list" rExtend (tVar 6) (tCons (tSl (rSlL K) (tFld K (tVar 0) "owners") (tPart (tVar 7)) (tPart (tVar 8))) tNil)))
        (tSeq (tDrop (tBM K "list" rExtend (tVar 6) (tCons (tOp rRep (tLst (tCons (tVar 4) tNil)) (tCB (oLen K) (tCons (tVar 3) tNil))) tNil)))
        (tAsg (tOp oAdd (tVar 8) (tVar 2)) (gName 7)))))))
    (tSeq (tDrop (tBM K "list" rExtend (tVar 5) (tCons (tSl (rSlL K) (tFld K (tVar 0) "text") (tPart (tVar 7)) tNoPart) tNil)))
    (tSeq (tDrop (tBM K "list" rExtend (tVar 6) (tCons (tSl (rSlL K) (tFld K (tVar 0) "owners") (tPart (tVar 7)) tNoPart) tNil)))
    (tRet (tMake A.c_Section sp_Section_init [] E0 (tCons (tFld K (tVar 0) "label") (tCons (tVar 5) (tCons (tVar 6) tNil)))))))))))
theorem ok_exchange (T : Txt K mg A) {sp_Section_init : Sp} (G_Section_init : FnOk P w K mg base CX0 1 A.f_Section_init A.d_Section_init ["self", "label", "text", "owners"] sp_Section_init) {sp : Sp} (len : ∀ vs H Q E, sp vs H Q E → vs.length = 5)
    (pure : ∀ vs H Q E, sp vs H Q E → t_exchange K A sp_Section_init { nx := fun _ H' => Q .non H', rt := Q } (start ["section", "places", "size", "row", "owner", "text", "owners", "done", "place"] vs) H) :
    FnOk P w K mg base CX0 3 A.f_exchange A.d_exchange ["section", "places", "size", "row", "owner"] sp := by
  refine T.n_exchange.ok sc_exchange len (fun cdv A' outer s H vs Q E hr h => ⟨t_exchange K A sp_Section_init, ?_, pure vs H Q E h⟩)
  exact (pss_cons (ps_set (i := 5) sc_exchange.nd rfl (Or.inl rfl) (pe_lst pa_nil))
    (pss_cons (ps_set (i := 6) sc_exchange.nd rfl (Or.inl rfl) (pe_lst pa_nil))
    (pss_cons (ps_set (i := 7) sc_exchange.nd rfl (Or.inl rfl) pe_int)
    (pss_cons (ps_for PassesOwn.never rfl (pi_list (pv 1)) (pg_name (i := 8) sc_exchange.nd rfl (Or.inl rfl)) (pss_cons (ps_expr (pe_bm PySem.F.plainAttrs_list PySem.F.slot_list_extend PySem.F.type_list_extend mt_extend (pv 5) (pa_cons (pe_slice sl_list (pe_fld (pv 0) rfl) (po_some (pv 7)) (po_some (pv 8))) pa_nil)))
        (pss_cons (ps_expr (pe_bm PySem.F.plainAttrs_list PySem.F.slot_list_extend PySem.F.type_list_extend mt_extend (pv 5) (pa_cons (pv 3) pa_nil)))
        (pss_cons (ps_expr (pe_bm PySem.F.plainAttrs_list PySem.F.slot_list_extend PySem.F.type_list_extend mt_extend (pv 6) (pa_cons (pe_slice sl_list (pe_fld (pv 0) rfl) (po_some (pv 7)) (po_some (pv 8))) pa_nil)))
        (pss_cons (ps_expr (pe_bm PySem.F.plainAttrs_list PySem.F.slot_list_extend PySem.F.type_list_extend mt_extend (pv 6) (pa_cons (pe_op op_rep (pe_lst (pa_cons (pv 4) pa_nil)) (pe_callB call_len_seq (by rfl) T.z_len PySem.boot_len (pa_cons (pv 3) pa_nil))) pa_nil)))
        (pss_one (ps_set (i := 7) sc_exchange.nd rfl (Or.inl rfl) (pe_op op_add (pv 8) (pv 2)))))))))
    (pss_cons (ps_expr (pe_bm PySem.F.plainAttrs_list PySem.F.slot_list_extend PySem.F.type_list_extend mt_extend (pv 5) (pa_cons (pe_slice sl_list (pe_fld (pv 0) rfl) (po_some (pv 7)) po_none) pa_nil)))
    (pss_cons (ps_expr (pe_bm PySem.F.plainAttrs_list PySem.F.slot_list_extend PySem.F.type_list_extend mt_extend (pv 6) (pa_cons (pe_slice sl_list (pe_fld (pv 0) rfl) (po_some (pv 7)) po_none) pa_nil)))
    (pss_one (ps_ret (pe_make T.mk_Section G_Section_init (hr.mono (by decide)) rfl T.g_Section T.b_Section_init .nil pass0 (pa_cons (pe_fld (pv 0) rfl) (pa_cons (pv 5) (pa_cons (pv 6) pa_nil))))))))))))
def t_Record_add_act (K : PySem.W.Frag) (A : Ad) (sp_Record_is_before_last_act sp_Record_last_act sp_is_day : Sp) : TS :=
  (tSeq (tIfS (tOr (tNot (tB (tCall sp_is_day [] E0 (tCons (tVar 1) tNil)))) (tB (tMeth A.c_Record "is_before_last_act" sp_Record_is_before_last_act [] E0 (tVar 0) (tCons (tVar 1) tNil)))) (tRet (tC (.int (-1)))) tNext)
    (tSeq (tIfS (tTest (tOp rEq (tCB (oLen K) (tCons (tFld K (tVar 0) "days") tNil)) (tC (.int (512))))) (tRet (tC (.int (-28)))) tNext)
    (tSeq (tDrop (tBM K "list" rAppend (tFld K (tVar 0) "days") (tCons (tVar 1) tNil)))
    (tRet (tMeth A.c_Record "last_act" sp_Record_last_act [] E0 (tVar 0) tNil)))))
theorem ok_Record_add_act (T : Txt K mg A) {sp_Record_is_before_last_act : Sp} (G_Record_is_before_last_act : FnOk P w K mg base CX0 2 A.f_Record_is_before_last_act A.d_Record_is_before_last_act ["self", "day"] sp_Record_is_before_last_act) {sp_Record_last_act : Sp} (G_Record_last_act : FnOk P w K mg base CX0 1 A.f_Record_last_act A.d_Record_last_act ["self"] sp_Record_last_act) {sp_is_day : Sp} (G_is_day : FnOk P w K mg base CX0 1 A.f_is_day A.d_is_day ["day"] sp_is_day) {sp : Sp} (len : ∀ vs H Q E, sp vs H Q E → vs.length = 2)
    (pure : ∀ vs H Q E, sp vs H Q E → t_Record_add_act K A sp_Record_is_before_last_act sp_Record_last_act sp_is_day { nx := fun _ H' => Q .non H', rt := Q } (start ["self", "day"] vs) H) :
    FnOk P w K mg base CX0 3 A.f_Record_add_act A.d_Record_add_act ["self", "day"] sp := by
  refine T.n_Record_add_act.ok sc_Record_add_act len (fun cdv A' outer s H vs Q E hr h => ⟨t_Record_add_act K A sp_Record_is_before_last_act sp_Record_last_act sp_is_day, ?_, pure vs H Q E h⟩)
  exact (pss_cons (ps_if (PW.pt (pw_or (pt_not (pt_val (pe_call G_is_day (hr.mono (by decide)) rfl T.g_is_day T.n_is_day.kp T.b_is_day .nil pass0 (pa_cons (pv 1) pa_nil)))) (pw_or1 (pt_val (pe_meth (pv 0) T.cl_Record T.m_Record_is_before_last_act G_Record_is_before_last_act (hr.mono (by decide)) T.b_Record_is_before_last_act .nil pass0 (pa_cons (pv 1) pa_nil)))))) (pss_one (ps_ret (pe_glob rfl T.g_WRONG.choose_spec ⟨_, rfl⟩))) pss_nil)
    (pss_cons (ps_if (pt_cmpR op_eq (pe_callB call_len_seq (by rfl) T.z_len PySem.boot_len (pa_cons (pe_fld (pv 0) rfl) pa_nil)) (pe_glob rfl T.g_MOST_ACTS.choose_spec ⟨_, rfl⟩) (nomark _)) (pss_one (ps_ret (pe_glob rfl T.g_FULL.choose_spec ⟨_, rfl⟩))) pss_nil)
    (pss_cons (ps_expr (pe_bm PySem.F.plainAttrs_list PySem.F.slot_list_append PySem.F.type_list_append mt_append (pe_fld (pv 0) rfl) (pa_cons (pv 1) pa_nil)))
    (pss_one (ps_ret (pe_meth0 (pv 0) T.cl_Record T.m_Record_last_act G_Record_last_act (hr.mono (by decide)) T.b_Record_last_act .nil pass0))))))
def t_Record_add_void (K : PySem.W.Frag) (A : Ad) (sp_Command_init sp_Record_keep : Sp) : TS :=
  (tSeq (tIfS (tTest (tOp oGe (tVar 1) (tCB (oLen K) (tCons (tFld K (tVar 0) "commands") tNil)))) (tRet (tC (.int (-1)))) tNext)
    (tSeq (tAsg (tMake A.c_Command sp_Command_init [] E0 (tCons (tC (.int (7))) tNil)) (gName 2))
    (tSeq (sFld K (tVar 2) (tVar 1) "target")
    (tRet (tMeth A.c_Record "keep" sp_Record_keep [] E0 (tVar 0) (tCons (tVar 2) tNil))))))
theorem ok_Record_add_void (T : Txt K mg A) {sp_Command_init : Sp} (G_Command_init : FnOk P w K mg base CX0 1 A.f_Command_init A.d_Command_init ["self", "kind"] sp_Command_init) {sp_Record_keep : Sp} (G_Record_keep : FnOk P w K mg base CX0 2 A.f_Record_keep A.d_Record_keep ["self", "command"] sp_Record_keep) {sp : Sp} (len : ∀ vs H Q E, sp vs H Q E → vs.length = 2)
    (pure : ∀ vs H Q E, sp vs H Q E → t_Record_add_void K A sp_Command_init sp_Record_keep { nx := fun _ H' => Q .non H', rt := Q } (start ["self", "target", "command"] vs) H) :
    FnOk P w K mg base CX0 3 A.f_Record_add_void A.d_Record_add_void ["self", "target"] sp := by
  refine T.n_Record_add_void.ok sc_Record_add_void len (fun cdv A' outer s H vs Q E hr h => ⟨t_Record_add_void K A sp_Command_init sp_Record_keep, ?_, pure vs H Q E h⟩)
  exact (pss_cons (ps_if (pt_cmpR op_ge (pv 1) (pe_callB call_len_seq (by rfl) T.z_len PySem.boot_len (pa_cons (pe_fld (pv 0) rfl) pa_nil)) (nomark _)) (pss_one (ps_ret (pe_glob rfl T.g_WRONG.choose_spec ⟨_, rfl⟩))) pss_nil)
    (pss_cons (ps_set (i := 2) sc_Record_add_void.nd rfl (Or.inl rfl) (pe_make T.mk_Command G_Command_init (hr.mono (by decide)) rfl T.g_Command T.b_Command_init .nil pass0 (pa_cons (pe_glob rfl T.g_VOID.choose_spec ⟨_, rfl⟩) pa_nil)))
    (pss_cons (ps_fld (pv 2) (pv 1) rfl)
    (pss_one (ps_ret (pe_meth (pv 0) T.cl_Record T.m_Record_keep G_Record_keep (hr.mono (by decide)) T.b_Record_keep .nil pass0 (pa_cons (pv 2) pa_nil)))))))
def t_Laws_init (K : PySem.W.Frag) (A : Ad) (sp_Record_init : Sp) : TS :=
  (tSeq (sFld K (tVar 0) (tMake A.c_Record sp_Record_init [] E0 tNil) "record")
    (sFld K (tVar 0) tDNewK "courses"))
theorem ok_Laws_init (T : Txt K mg A) {sp_Record_init : Sp} (G_Record_init : FnOk P w K mg base CX0 1 A.f_Record_init A.d_Record_init ["self"] sp_Record_init) {sp : Sp} (len : ∀ vs H Q E, sp vs H Q E → vs.length = 1)
    (pure : ∀ vs H Q E, sp vs H Q E → t_Laws_init K A sp_Record_init { nx := fun _ H' => Q .non H', rt := Q } (start ["self"] vs) H) :
    FnOk P w K mg base CX0 3 A.f_Laws_init A.d_Laws_init ["self"] sp := by
  refine T.n_Laws_init.ok sc_Laws_init len (fun cdv A' outer s H vs Q E hr h => ⟨t_Laws_init K A sp_Record_init, ?_, pure vs H Q E h⟩)
  exact (pss_cons (ps_fld (pv 0) (pe_make0 T.mk_Record G_Record_init (hr.mono (by decide)) rfl T.g_Record T.b_Record_init .nil pass0) rfl)
    (pss_one (ps_fld (pv 0) pe_dnewK rfl)))
def t_Laws_begin (K : PySem.W.Frag) (A : Ad) (sp_Record_init : Sp) : TS :=
  (tSeq (sFld K (tVar 0) (tMake A.c_Record sp_Record_init [] E0 tNil) "record")
    (sFld K (tVar 0) tDNewK "courses"))
theorem ok_Laws_begin (T : Txt K mg A) {sp_Record_init : Sp} (G_Record_init : FnOk P w K mg base CX0 1 A.f_Record_init A.d_Record_init ["self"] sp_Record_init) {sp : Sp} (len : ∀ vs H Q E, sp vs H Q E → vs.length = 1)
    (pure : ∀ vs H Q E, sp vs H Q E → t_Laws_begin K A sp_Record_init { nx := fun _ H' => Q .non H', rt := Q } (start ["self"] vs) H) :
    FnOk P w K mg base CX0 3 A.f_Laws_begin A.d_Laws_begin ["self"] sp := by
  refine T.n_Laws_begin.ok sc_Laws_begin len (fun cdv A' outer s H vs Q E hr h => ⟨t_Laws_begin K A sp_Record_init, ?_, pure vs H Q E h⟩)
  exact (pss_cons (ps_fld (pv 0) (pe_make0 T.mk_Record G_Record_init (hr.mono (by decide)) rfl T.g_Record T.b_Record_init .nil pass0) rfl)
    (pss_one (ps_fld (pv 0) pe_dnewK rfl)))
def t_Laws_course_of (K : PySem.W.Frag) (A : Ad) (sp_Course_init : Sp) : TS :=
  (tSeq (tIfS (tB (tDNotIn (tVar 1) (tFld K (tVar 0) "courses"))) (sDPut (tFld K (tVar 0) "courses") (tVar 1) (tMake A.c_Course sp_Course_init [] E0 tNil)) tNext)
    (tRet (tDGet (tFld K (tVar 0) "courses") (tVar 1))))
theorem ok_Laws_course_of (T : Txt K mg A) {sp_Course_init : Sp} (G_Course_init : FnOk P w K mg base CX0 1 A.f_Course_init A.d_Course_init ["self"] sp_Course_init) {sp : Sp} (len : ∀ vs H Q E, sp vs H Q E → vs.length = 2)
    (pure : ∀ vs H Q E, sp vs H Q E → t_Laws_course_of K A sp_Course_init { nx := fun _ H' => Q .non H', rt := Q } (start ["self", "law"] vs) H) :
    FnOk P w K mg base CX0 3 A.f_Laws_course_of A.d_Laws_course_of ["self", "law"] sp := by
  refine T.n_Laws_course_of.ok sc_Laws_course_of len (fun cdv A' outer s H vs Q E hr h => ⟨t_Laws_course_of K A sp_Course_init, ?_, pure vs H Q E h⟩)
  exact (pss_cons (ps_if (pt_cmp (pc_dnotin (hu_of hr) (pv 1) (pe_fld (pv 0) rfl))) (pss_one (ps_dput (hu_of hr) (pe_fld (pv 0) rfl) (pv 1) (pe_make0 T.mk_Course G_Course_init (hr.mono (by decide)) rfl T.g_Course T.b_Course_init .nil pass0) rfl)) pss_nil)
    (pss_one (ps_ret (pe_dget (hu_of hr) (pe_fld (pv 0) rfl) (pv 1) (fun _ _ => rfl)))))
def t_find_text (K : PySem.W.Frag) (A : Ad) (sp_find_section : Sp) : TS :=
  (tSeq (tAsg (tCall sp_find_section [] E0 (tCons (tVar 0) (tCons (tVar 1) tNil))) (gName 2))
    (tRet (tIf (tB (tIsN (tVar 2))) (tC .non) (tFld K (tVar 2) "text"))))
theorem ok_find_text (T : Txt K mg A) {sp_find_section : Sp} (G_find_section : FnOk P w K mg base CX0 2 A.f_find_section A.d_find_section ["sections", "label"] sp_find_section) {sp : Sp} (len : ∀ vs H Q E, sp vs H Q E → vs.length = 2)
    (pure : ∀ vs H Q E, sp vs H Q E → t_find_text K A sp_find_section { nx := fun _ H' => Q .non H', rt := Q } (start ["sections", "label", "section"] vs) H) :
    FnOk P w K mg base CX0 3 A.f_find_text A.d_find_text ["sections", "label"] sp := by
  refine T.n_find_text.ok sc_find_text len (fun cdv A' outer s H vs Q E hr h => ⟨t_find_text K A sp_find_section, ?_, pure vs H Q E h⟩)
  exact (pss_cons (ps_set (i := 2) sc_find_text.nd rfl (Or.inl rfl) (pe_call G_find_section (hr.mono (by decide)) rfl T.g_find_section T.n_find_section.kp T.b_find_section .nil pass0 (pa_cons (pv 0) (pa_cons (pv 1) pa_nil))))
    (pss_one (ps_ret (pe_ifExp (pt_cmp (pc_isN (pv 2))) pe_non (pe_fld (pv 2) rfl)))))
def t_read_command (K : PySem.W.Frag) (A : Ad) (sp_Command_init sp_Reader_next_number sp_Reader_next_row : Sp) : TS :=
  (tSeq (tAsg (tMake A.c_Command sp_Command_init [] E0 (tCons (tVar 0) tNil)) (gName 2))
    (tSeq (sFld K (tVar 2) (tMeth A.c_Reader "next_number" sp_Reader_next_number [] E0 (tVar 1) tNil) "law")
    (tSeq (tIfS (tTest (tOp rEq (tVar 0) (tC (.int (6))))) (sFld K (tVar 2) (tMeth A.c_Reader "next_number" sp_Reader_next_number [] E0 (tVar 1) tNil) "follow") tNext)
    (tSeq (sFld K (tVar 2) (tMeth A.c_Reader "next_number" sp_Reader_next_number [] E0 (tVar 1) tNil) "begins")
    (tSeq (sFld K (tVar 2) (tMeth A.c_Reader "next_number" sp_Reader_next_number [] E0 (tVar 1) tNil) "till")
    (tSeq (tIfS (tTest (tOp rEq (tVar 0) (tC (.int (2))))) (sFld K (tVar 2) (tMeth A.c_Reader "next_row" sp_Reader_next_row [] E0 (tVar 1) tNil) "after") tNext)
    (tSeq (sFld K (tVar 2) (tMeth A.c_Reader "next_row" sp_Reader_next_row [] E0 (tVar 1) tNil) "label")
    (tSeq (tIfS (tTest (tOp rEq (tVar 0) (tC (.int (5))))) (sFld K (tVar 2) (tMeth A.c_Reader "next_row" sp_Reader_next_row [] E0 (tVar 1) tNil) "old") tNext)
    (tSeq (tIfS (tTest (tOp rEq (tVar 0) (tC (.int (6))))) (sFld K (tVar 2) (tMeth A.c_Reader "next_row" sp_Reader_next_row [] E0 (tVar 1) tNil) "to") tNext)
    (tSeq (tIfS (tTest (tOp (rIn K false) (tVar 0) (tTup (tCons (tC (.int (2))) (tCons (tC (.int (4))) (tCons (tC (.int (5))) tNil)))))) (sFld K (tVar 2) (tMeth A.c_Reader "next_row" sp_Reader_next_row [] E0 (tVar 1) tNil) "text") tNext)
    (tRet (tVar 2))))))))))))
theorem ok_read_command (T : Txt K mg A) {sp_Command_init : Sp} (G_Command_init : FnOk P w K mg base CX0 1 A.f_Command_init A.d_Command_init ["self", "kind"] sp_Command_init) {sp_Reader_next_number : Sp} (G_Reader_next_number : FnOk P w K mg base CX0 1 A.f_Reader_next_number A.d_Reader_next_number ["self"] sp_Reader_next_number) {sp_Reader_next_row : Sp} (G_Reader_next_row : FnOk P w K mg base CX0 2 A.f_Reader_next_row A.d_Reader_next_row ["self"] sp_Reader_next_row) {sp : Sp} (len : ∀ vs H Q E, sp vs H Q E → vs.length = 2)
    (pure : ∀ vs H Q E, sp vs H Q E → t_read_command K A sp_Command_init sp_Reader_next_number sp_Reader_next_row { nx := fun _ H' => Q .non H', rt := Q } (start ["kind", "reader", "command"] vs) H) :
    FnOk P w K mg base CX0 3 A.f_read_command A.d_read_command ["kind", "reader"] sp := by
  refine T.n_read_command.ok sc_read_command len (fun cdv A' outer s H vs Q E hr h => ⟨t_read_command K A sp_Command_init sp_Reader_next_number sp_Reader_next_row, ?_, pure vs H Q E h⟩)
  exact (pss_cons (ps_set (i := 2) sc_read_command.nd rfl (Or.inl rfl) (pe_make T.mk_Command G_Command_init (hr.mono (by decide)) rfl T.g_Command T.b_Command_init .nil pass0 (pa_cons (pv 0) pa_nil)))
    (pss_cons (ps_fld (pv 2) (pe_meth0 (pv 1) T.cl_Reader T.m_Reader_next_number G_Reader_next_number (hr.mono (by decide)) T.b_Reader_next_number .nil pass0) rfl)
    (pss_cons (ps_if (pt_cmpR op_eq (pv 0) (pe_glob rfl T.g_NAME.choose_spec ⟨_, rfl⟩) (nomark _)) (pss_one (ps_fld (pv 2) (pe_meth0 (pv 1) T.cl_Reader T.m_Reader_next_number G_Reader_next_number (hr.mono (by decide)) T.b_Reader_next_number .nil pass0) rfl)) pss_nil)
    (pss_cons (ps_fld (pv 2) (pe_meth0 (pv 1) T.cl_Reader T.m_Reader_next_number G_Reader_next_number (hr.mono (by decide)) T.b_Reader_next_number .nil pass0) rfl)
    (pss_cons (ps_fld (pv 2) (pe_meth0 (pv 1) T.cl_Reader T.m_Reader_next_number G_Reader_next_number (hr.mono (by decide)) T.b_Reader_next_number .nil pass0) rfl)
    (pss_cons (ps_if (pt_cmpR op_eq (pv 0) (pe_glob rfl T.g_PUT.choose_spec ⟨_, rfl⟩) (nomark _)) (pss_one (ps_fld (pv 2) (pe_meth0 (pv 1) T.cl_Reader T.m_Reader_next_row G_Reader_next_row (hr.mono (by decide)) T.b_Reader_next_row .nil pass0) rfl)) pss_nil)
    (pss_cons (ps_fld (pv 2) (pe_meth0 (pv 1) T.cl_Reader T.m_Reader_next_row G_Reader_next_row (hr.mono (by decide)) T.b_Reader_next_row .nil pass0) rfl)
    (pss_cons (ps_if (pt_cmpR op_eq (pv 0) (pe_glob rfl T.g_WORD.choose_spec ⟨_, rfl⟩) (nomark _)) (pss_one (ps_fld (pv 2) (pe_meth0 (pv 1) T.cl_Reader T.m_Reader_next_row G_Reader_next_row (hr.mono (by decide)) T.b_Reader_next_row .nil pass0) rfl)) pss_nil)
    (pss_cons (ps_if (pt_cmpR op_eq (pv 0) (pe_glob rfl T.g_NAME.choose_spec ⟨_, rfl⟩) (nomark _)) (pss_one (ps_fld (pv 2) (pe_meth0 (pv 1) T.cl_Reader T.m_Reader_next_row G_Reader_next_row (hr.mono (by decide)) T.b_Reader_next_row .nil pass0) rfl)) pss_nil)
    (pss_cons (ps_if (pt_cmpR op_in_seq (pv 0) (pe_tup (pa_cons (pe_glob rfl T.g_PUT.choose_spec ⟨_, rfl⟩) (pa_cons (pe_glob rfl T.g_TEXT.choose_spec ⟨_, rfl⟩) (pa_cons (pe_glob rfl T.g_WORD.choose_spec ⟨_, rfl⟩) pa_nil)))) rfl) (pss_one (ps_fld (pv 2) (pe_meth0 (pv 1) T.cl_Reader T.m_Reader_next_row G_Reader_next_row (hr.mono (by decide)) T.b_Reader_next_row .nil pass0) rfl)) pss_nil)
    (pss_one (ps_ret (pv 2)))))))))))))
def t_is_place (K : PySem.W.Frag) (A : Ad) (sp_is_label : Sp) : TS :=
  (tRet (tOrV (tOp rEq (tCB (oLen K) (tCons (tVar 0) tNil)) (tC (.int 0))) (tCall sp_is_label [] E0 (tCons (tVar 0) tNil))))
theorem ok_is_place (T : Txt K mg A) {sp_is_label : Sp} (G_is_label : FnOk P w K mg base CX0 3 A.f_is_label A.d_is_label ["row"] sp_is_label) {sp : Sp} (len : ∀ vs H Q E, sp vs H Q E → vs.length = 1)
    (pure : ∀ vs H Q E, sp vs H Q E → t_is_place K A sp_is_label { nx := fun _ H' => Q .non H', rt := Q } (start ["after"] vs) H) :
    FnOk P w K mg base CX0 4 A.f_is_place A.d_is_place ["after"] sp := by
  refine T.n_is_place.ok sc_is_place len (fun cdv A' outer s H vs Q E hr h => ⟨t_is_place K A sp_is_label, ?_, pure vs H Q E h⟩)
  exact (pss_one (ps_ret (pe_or (pe_cmpR op_eq (pe_callB call_len_seq (by rfl) T.z_len PySem.boot_len (pa_cons (pv 0) pa_nil)) pe_int (nomark _)) (pe_one (pe_call G_is_label (hr.mono (by decide)) rfl T.g_is_label T.n_is_label.kp T.b_is_label .nil pass0 (pa_cons (pv 0) pa_nil))))))
def t_follow_label (K : PySem.W.Frag) (A : Ad) (sp_exchange sp_places_in : Sp) : TS :=
  (tSeq (tAsg (tCall sp_places_in [] E0 (tCons (tFld K (tVar 0) "text") (tCons (tOp rCat (tOp rCat (tLst (tCons (tC (.int (91))) tNil)) (tVar 1)) (tLst (tCons (tC (.int (93))) tNil))) tNil))) (gName 4))
    (tSeq (tIfS (tTest (tOp rEq (tCB (oLen K) (tCons (tVar 4) tNil)) (tC (.int 0)))) (tRet (tVar 0)) tNext)
    (tRet (tCall sp_exchange [] E0 (tCons (tVar 0) (tCons (tLc (iList K (tVar 4)) (gName 5) tYes (tOp oAdd (tVar 5) (tC (.int 1))) [5]) (tCons (tCB (oLen K) (tCons (tVar 1) tNil)) (tCons (tVar 2) (tCons (tVar 3) tNil)))))))))
theorem ok_follow_label (T : Txt K mg A) {sp_exchange : Sp} (G_exchange : FnOk P w K mg base CX0 3 A.f_exchange A.d_exchange ["section", "places", "size", "row", "owner"] sp_exchange) {sp_places_in : Sp} (G_places_in : FnOk P w K mg base CX0 1 A.f_places_in A.d_places_in ["text", "row"] sp_places_in) {sp : Sp} (len : ∀ vs H Q E, sp vs H Q E → vs.length = 4)
    (pure : ∀ vs H Q E, sp vs H Q E → t_follow_label K A sp_exchange sp_places_in { nx := fun _ H' => Q .non H', rt := Q } (start ["section", "label", "to", "owner", "places", "place"] vs) H) :
    FnOk P w K mg base CX0 4 A.f_follow_label A.d_follow_label ["section", "label", "to", "owner"] sp := by
  refine T.n_follow_label.ok sc_follow_label len (fun cdv A' outer s H vs Q E hr h => ⟨t_follow_label K A sp_exchange sp_places_in, ?_, pure vs H Q E h⟩)
  exact (pss_cons (ps_set (i := 4) sc_follow_label.nd rfl (Or.inl rfl) (pe_call G_places_in (hr.mono (by decide)) rfl T.g_places_in T.n_places_in.kp T.b_places_in .nil pass0 (pa_cons (pe_fld (pv 0) rfl) (pa_cons (pe_op op_cat (pe_op op_cat (pe_lst (pa_cons (pe_glob rfl T.g_LEFT_BRACKET.choose_spec ⟨_, rfl⟩) pa_nil)) (pv 1)) (pe_lst (pa_cons (pe_glob rfl T.g_RIGHT_BRACKET.choose_spec ⟨_, rfl⟩) pa_nil))) pa_nil))))
    (pss_cons (ps_if (pt_cmpR op_eq (pe_callB call_len_seq (by rfl) T.z_len PySem.boot_len (pa_cons (pv 4) pa_nil)) pe_int (nomark _)) (pss_one (ps_ret (pv 0))) pss_nil)
    (pss_one (ps_ret (pe_call G_exchange (hr.mono (by decide)) rfl T.g_exchange T.n_exchange.kp T.b_exchange .nil pass0 (pa_cons (pv 0) (pa_cons (pe_lc (own := [("place", 5)]) (g := gName 5) (by rfl) sc_follow_label.nd (pi_list (pv 4)) (blkOk_by (own := [("place", 5)]) (N := ["section", "label", "to", "owner", "places", "place"]) (sc := defScope s_follow_label) (by decide +kernel)) (fun _ _ _ _ _ => pg_name (i := 5) sc_follow_label.nd rfl (Or.inl rfl)) (fun _ _ _ _ _ => pts_nil) (fun _ _ _ _ _ => (pe_op op_add (pv 5) pe_int))) (pa_cons (pe_callB call_len_seq (by rfl) T.z_len PySem.boot_len (pa_cons (pv 1) pa_nil)) (pa_cons (pv 2) (pa_cons (pv 3) pa_nil))))))))))
def t_references_in (K : PySem.W.Frag) (A : Ad) (sp_is_label : Sp) : TS :=
  (tSeq (tAsg (tLst tNil) (gName 1))
    (tSeq (tAsg (tC .non) (gName 2))
    (tSeq (tFor (iEnum K (tCons (tVar 0) tNil)) (gTup K 2 (gCons (gName 3) (gCons (gName 4) gNil))) (tSeq (tIfS (tTest (tOp rEq (tVar 4) (tC (.int (91))))) (tAsg (tOp oAdd (tVar 3) (tC (.int 1))) (gName 2)) tNext)
        (tIfS (tAnd (tTest (tOp rEq (tVar 4) (tC (.int (93))))) (tB (tNotN (tVar 2)))) (tSeq (tIfS (tB (tCall sp_is_label [] E0 (tCons (tSl (rSlL K) (tVar 0) (tPart (tVar 2)) (tPart (tVar 3))) tNil))) (tDrop (tBM K "list" rAppend (tVar 1) (tCons (tSl (rSlL K) (tVar 0) (tPart (tVar 2)) (tPart (tVar 3))) tNil))) tNext)
            (tAsg (tC .non) (gName 2))) tNext)))
    (tRet (tVar 1)))))
theorem ok_references_in (T : Txt K mg A) {sp_is_label : Sp} (G_is_label : FnOk P w K mg base CX0 3 A.f_is_label A.d_is_label ["row"] sp_is_label) {sp : Sp} (len : ∀ vs H Q E, sp vs H Q E → vs.length = 1)
    (pure : ∀ vs H Q E, sp vs H Q E → t_references_in K A sp_is_label { nx := fun _ H' => Q .non H', rt := Q } (start ["text", "found", "opened", "place", "byte"] vs) H) :
    FnOk P w K mg base CX0 4 A.f_references_in A.d_references_in ["text"] sp := by
  refine T.n_references_in.ok sc_references_in len (fun cdv A' outer s H vs Q E hr h => ⟨t_references_in K A sp_is_label, ?_, pure vs H Q E h⟩)
  exact (pss_cons (ps_set (i := 1) sc_references_in.nd rfl (Or.inl rfl) (pe_lst pa_nil))
    (pss_cons (ps_set (i := 2) sc_references_in.nd rfl (Or.inl rfl) pe_non)
    (pss_cons (ps_for PassesOwn.never rfl (pi_enum (by rfl) T.z_enumerate (pa_cons (pv 0) pa_nil)) (pg_tup rfl (pgs_cons (pg_name (i := 3) sc_references_in.nd rfl (Or.inl rfl)) (pgs_cons (pg_name (i := 4) sc_references_in.nd rfl (Or.inl rfl)) pgs_nil))) (pss_cons (ps_if (pt_cmpR op_eq (pv 4) (pe_glob rfl T.g_LEFT_BRACKET.choose_spec ⟨_, rfl⟩) (nomark _)) (pss_one (ps_set (i := 2) sc_references_in.nd rfl (Or.inl rfl) (pe_op op_add (pv 3) pe_int))) pss_nil)
        (pss_one (ps_if (PW.pt (pw_and (pt_cmpR op_eq (pv 4) (pe_glob rfl T.g_RIGHT_BRACKET.choose_spec ⟨_, rfl⟩) (nomark _)) (pw_and1 (pt_cmp (pc_notN (pv 2)))))) (pss_cons (ps_if (pt_val (pe_call G_is_label (hr.mono (by decide)) rfl T.g_is_label T.n_is_label.kp T.b_is_label .nil pass0 (pa_cons (pe_slice sl_list (pv 0) (po_some (pv 2)) (po_some (pv 3))) pa_nil))) (pss_one (ps_expr (pe_bm PySem.F.plainAttrs_list PySem.F.slot_list_append PySem.F.type_list_append mt_append (pv 1) (pa_cons (pe_slice sl_list (pv 0) (po_some (pv 2)) (po_some (pv 3))) pa_nil)))) pss_nil)
            (pss_one (ps_set (i := 2) sc_references_in.nd rfl (Or.inl rfl) pe_non))) pss_nil))))
    (pss_one (ps_ret (pv 1))))))
def t_put_section (K : PySem.W.Frag) (A : Ad) (sp_new_section sp_place_of : Sp) : TS :=
  (tSeq (tIfS (tOr (tTest (tOp rEq (tCB (oLen K) (tCons (tVar 1) tNil)) (tC (.int (64))))) (tB (tNotN (tCall sp_place_of [] E0 (tCons (tVar 1) (tCons (tFld K (tVar 0) "label") tNil)))))) (tRet (tC .non)) tNext)
    (tSeq (tAsg (tCall sp_new_section [] E0 (tCons (tFld K (tVar 0) "label") (tCons (tFld K (tVar 0) "text") (tCons (tFld K (tVar 0) "number") tNil)))) (gName 2))
    (tSeq (tIfS (tTest (tOp rEq (tCB (oLen K) (tCons (tFld K (tVar 0) "after") tNil)) (tC (.int 0)))) (tRet (tOp rCat (tLst (tCons (tVar 2) tNil)) (tVar 1))) tNext)
    (tSeq (tAsg (tCall sp_place_of [] E0 (tCons (tVar 1) (tCons (tFld K (tVar 0) "after") tNil))) (gName 3))
    (tSeq (tIfS (tB (tIsN (tVar 3))) (tRet (tC .non)) tNext)
    (tRet (tOp rCat (tOp rCat (tSl (rSlL K) (tVar 1) tNoPart (tPart (tOp oAdd (tVar 3) (tC (.int 1))))) (tLst (tCons (tVar 2) tNil))) (tSl (rSlL K) (tVar 1) (tPart (tOp oAdd (tVar 3) (tC (.int 1)))) tNoPart))))))))
theorem ok_put_section (T : Txt K mg A) {sp_new_section : Sp} (G_new_section : FnOk P w K mg base CX0 3 A.f_new_section A.d_new_section ["label", "text", "owner"] sp_new_section) {sp_place_of : Sp} (G_place_of : FnOk P w K mg base CX0 1 A.f_place_of A.d_place_of ["sections", "label"] sp_place_of) {sp : Sp} (len : ∀ vs H Q E, sp vs H Q E → vs.length = 2)
    (pure : ∀ vs H Q E, sp vs H Q E → t_put_section K A sp_new_section sp_place_of { nx := fun _ H' => Q .non H', rt := Q } (start ["command", "sections", "section", "place"] vs) H) :
    FnOk P w K mg base CX0 4 A.f_put_section A.d_put_section ["command", "sections"] sp := by
  refine T.n_put_section.ok sc_put_section len (fun cdv A' outer s H vs Q E hr h => ⟨t_put_section K A sp_new_section sp_place_of, ?_, pure vs H Q E h⟩)
  exact (pss_cons (ps_if (PW.pt (pw_or (pt_cmpR op_eq (pe_callB call_len_seq (by rfl) T.z_len PySem.boot_len (pa_cons (pv 1) pa_nil)) (pe_glob rfl T.g_MOST_SECTIONS.choose_spec ⟨_, rfl⟩) (nomark _)) (pw_or1 (pt_cmp (pc_notN (pe_call G_place_of (hr.mono (by decide)) rfl T.g_place_of T.n_place_of.kp T.b_place_of .nil pass0 (pa_cons (pv 1) (pa_cons (pe_fld (pv 0) rfl) pa_nil)))))))) (pss_one (ps_ret pe_non)) pss_nil)
    (pss_cons (ps_set (i := 2) sc_put_section.nd rfl (Or.inl rfl) (pe_call G_new_section (hr.mono (by decide)) rfl T.g_new_section T.n_new_section.kp T.b_new_section .nil pass0 (pa_cons (pe_fld (pv 0) rfl) (pa_cons (pe_fld (pv 0) rfl) (pa_cons (pe_fld (pv 0) rfl) pa_nil)))))
    (pss_cons (ps_if (pt_cmpR op_eq (pe_callB call_len_seq (by rfl) T.z_len PySem.boot_len (pa_cons (pe_fld (pv 0) rfl) pa_nil)) pe_int (nomark _)) (pss_one (ps_ret (pe_op op_cat (pe_lst (pa_cons (pv 2) pa_nil)) (pv 1)))) pss_nil)
    (pss_cons (ps_set (i := 3) sc_put_section.nd rfl (Or.inl rfl) (pe_call G_place_of (hr.mono (by decide)) rfl T.g_place_of T.n_place_of.kp T.b_place_of .nil pass0 (pa_cons (pv 1) (pa_cons (pe_fld (pv 0) rfl) pa_nil))))
    (pss_cons (ps_if (pt_cmp (pc_isN (pv 3))) (pss_one (ps_ret pe_non)) pss_nil)
    (pss_one (ps_ret (pe_op op_cat (pe_op op_cat (pe_slice sl_list (pv 1) po_none (po_some (pe_op op_add (pv 3) pe_int))) (pe_lst (pa_cons (pv 2) pa_nil))) (pe_slice sl_list (pv 1) (po_some (pe_op op_add (pv 3) pe_int)) po_none)))))))))
def t_change_word (K : PySem.W.Frag) (A : Ad) (sp_exchange sp_is_short sp_places_in sp_set_section : Sp) : TS :=
  (tSeq (tAsg (tOp (rIxL K) (tVar 1) (tVar 2)) (gName 3))
    (tSeq (tAsg (tCall sp_places_in [] E0 (tCons (tFld K (tVar 3) "text") (tCons (tFld K (tVar 0) "old") tNil))) (gName 4))
    (tSeq (tIfS (tTest (tOp rNe (tCB (oLen K) (tCons (tVar 4) tNil)) (tC (.int 1)))) (tRet (tC .non)) tNext)
    (tSeq (tAsg (tCall sp_exchange [] E0 (tCons (tVar 3) (tCons (tVar 4) (tCons (tCB (oLen K) (tCons (tFld K (tVar 0) "old") tNil)) (tCons (tFld K (tVar 0) "text") (tCons (tFld K (tVar 0) "number") tNil)))))) (gName 5))
    (tSeq (tIfS (tNot (tB (tCall sp_is_short [] E0 (tCons (tVar 5) tNil)))) (tRet (tC .non)) tNext)
    (tRet (tCall sp_set_section [] E0 (tCons (tVar 1) (tCons (tVar 2) (tCons (tVar 5) tNil))))))))))
theorem ok_change_word (T : Txt K mg A) {sp_exchange : Sp} (G_exchange : FnOk P w K mg base CX0 3 A.f_exchange A.d_exchange ["section", "places", "size", "row", "owner"] sp_exchange) {sp_is_short : Sp} (G_is_short : FnOk P w K mg base CX0 1 A.f_is_short A.d_is_short ["section"] sp_is_short) {sp_places_in : Sp} (G_places_in : FnOk P w K mg base CX0 1 A.f_places_in A.d_places_in ["text", "row"] sp_places_in) {sp_set_section : Sp} (G_set_section : FnOk P w K mg base CX0 1 A.f_set_section A.d_set_section ["sections", "place", "section"] sp_set_section) {sp : Sp} (len : ∀ vs H Q E, sp vs H Q E → vs.length = 3)
    (pure : ∀ vs H Q E, sp vs H Q E → t_change_word K A sp_exchange sp_is_short sp_places_in sp_set_section { nx := fun _ H' => Q .non H', rt := Q } (start ["command", "sections", "place", "section", "places", "changed"] vs) H) :
    FnOk P w K mg base CX0 4 A.f_change_word A.d_change_word ["command", "sections", "place"] sp := by
  refine T.n_change_word.ok sc_change_word len (fun cdv A' outer s H vs Q E hr h => ⟨t_change_word K A sp_exchange sp_is_short sp_places_in sp_set_section, ?_, pure vs H Q E h⟩)
  exact (pss_cons (ps_set (i := 3) sc_change_word.nd rfl (Or.inl rfl) (pe_ix ix_list (pv 1) (pv 2) (fun _ _ => rfl)))
    (pss_cons (ps_set (i := 4) sc_change_word.nd rfl (Or.inl rfl) (pe_call G_places_in (hr.mono (by decide)) rfl T.g_places_in T.n_places_in.kp T.b_places_in .nil pass0 (pa_cons (pe_fld (pv 3) rfl) (pa_cons (pe_fld (pv 0) rfl) pa_nil))))
    (pss_cons (ps_if (pt_cmpR op_ne (pe_callB call_len_seq (by rfl) T.z_len PySem.boot_len (pa_cons (pv 4) pa_nil)) pe_int (nomark _)) (pss_one (ps_ret pe_non)) pss_nil)
    (pss_cons (ps_set (i := 5) sc_change_word.nd rfl (Or.inl rfl) (pe_call G_exchange (hr.mono (by decide)) rfl T.g_exchange T.n_exchange.kp T.b_exchange .nil pass0 (pa_cons (pv 3) (pa_cons (pv 4) (pa_cons (pe_callB call_len_seq (by rfl) T.z_len PySem.boot_len (pa_cons (pe_fld (pv 0) rfl) pa_nil)) (pa_cons (pe_fld (pv 0) rfl) (pa_cons (pe_fld (pv 0) rfl) pa_nil)))))))
    (pss_cons (ps_if (pt_not (pt_val (pe_call G_is_short (hr.mono (by decide)) rfl T.g_is_short T.n_is_short.kp T.b_is_short .nil pass0 (pa_cons (pv 5) pa_nil)))) (pss_one (ps_ret pe_non)) pss_nil)
    (pss_one (ps_ret (pe_call G_set_section (hr.mono (by decide)) rfl T.g_set_section T.n_set_section.kp T.b_set_section .nil pass0 (pa_cons (pv 1) (pa_cons (pv 2) (pa_cons (pv 5) pa_nil)))))))))))
def t_in_order (K : PySem.W.Frag) (A : Ad) : TS :=
  (tRet (tSortKey K A.P_in_order "in_order.<locals>.<lambda>" (tVar 0)))
theorem ok_in_order (T : Txt K mg A) (tb : LamX.TabB base mg A.k_in_order A.P_in_order) {sp : Sp} (len : ∀ vs H Q E, sp vs H Q E → vs.length = 1)
    (pure : ∀ vs H Q E, sp vs H Q E → t_in_order K A { nx := fun _ H' => Q .non H', rt := Q } (start ["commands"] vs) H) :
    FnOk P w K mg base CX0 4 A.f_in_order A.d_in_order ["commands"] sp := by
  obtain ⟨oc, od, kV, doc, pm, an, ct, osl, e, lk, hcd⟩ := T.lam_in_order
  rw [e] at lk ⊢
  refine fn_of lk hcd sc_in_order len (fun A' outer s H vs Q E hr h => ⟨t_in_order K A, PSs.nox ?_, pure vs H Q E h⟩)
  exact (pss_one (ps_ret (pe_sortKey T.z_sorted tb rfl hr (pv 0))))
def t_is_sound (K : PySem.W.Frag) (A : Ad) (sp_is_label sp_is_law sp_is_old sp_is_place sp_is_span sp_is_text : Sp) : TS :=
  (tSeq (tIfS (tOr (tNot (tB (tCall sp_is_law [] E0 (tCons (tFld K (tVar 0) "law") tNil)))) (tNot (tB (tCall sp_is_span [] E0 (tCons (tFld K (tVar 0) "begins") (tCons (tFld K (tVar 0) "till") tNil)))))) (tRet (tC (.bl false))) tNext)
    (tSeq (tIfS (tOr (tNot (tB (tCall sp_is_label [] E0 (tCons (tFld K (tVar 0) "label") tNil)))) (tNot (tB (tCall sp_is_text [] E0 (tCons (tFld K (tVar 0) "text") tNil))))) (tRet (tC (.bl false))) tNext)
    (tSeq (tIfS (tTest (tOp rEq (tFld K (tVar 0) "kind") (tC (.int (2))))) (tRet (tCall sp_is_place [] E0 (tCons (tFld K (tVar 0) "after") tNil))) tNext)
    (tSeq (tIfS (tTest (tOp rEq (tFld K (tVar 0) "kind") (tC (.int (5))))) (tRet (tCall sp_is_old [] E0 (tCons (tFld K (tVar 0) "old") tNil))) tNext)
    (tSeq (tIfS (tTest (tOp rEq (tFld K (tVar 0) "kind") (tC (.int (6))))) (tRet (tAndV (tCall sp_is_label [] E0 (tCons (tFld K (tVar 0) "to") tNil)) (tOp oLe (tFld K (tVar 0) "follow") (tC (.int (1)))))) tNext)
    (tRet (tC (.bl true))))))))
theorem ok_is_sound (T : Txt K mg A) {sp_is_label : Sp} (G_is_label : FnOk P w K mg base CX0 3 A.f_is_label A.d_is_label ["row"] sp_is_label) {sp_is_law : Sp} (G_is_law : FnOk P w K mg base CX0 1 A.f_is_law A.d_is_law ["law"] sp_is_law) {sp_is_old : Sp} (G_is_old : FnOk P w K mg base CX0 3 A.f_is_old A.d_is_old ["old"] sp_is_old) {sp_is_place : Sp} (G_is_place : FnOk P w K mg base CX0 4 A.f_is_place A.d_is_place ["after"] sp_is_place) {sp_is_span : Sp} (G_is_span : FnOk P w K mg base CX0 2 A.f_is_span A.d_is_span ["begins", "till"] sp_is_span) {sp_is_text : Sp} (G_is_text : FnOk P w K mg base CX0 2 A.f_is_text A.d_is_text ["row"] sp_is_text) {sp : Sp} (len : ∀ vs H Q E, sp vs H Q E → vs.length = 1)
    (pure : ∀ vs H Q E, sp vs H Q E → t_is_sound K A sp_is_label sp_is_law sp_is_old sp_is_place sp_is_span sp_is_text { nx := fun _ H' => Q .non H', rt := Q } (start ["command"] vs) H) :
    FnOk P w K mg base CX0 5 A.f_is_sound A.d_is_sound ["command"] sp := by
  refine T.n_is_sound.ok sc_is_sound len (fun cdv A' outer s H vs Q E hr h => ⟨t_is_sound K A sp_is_label sp_is_law sp_is_old sp_is_place sp_is_span sp_is_text, ?_, pure vs H Q E h⟩)
  exact (pss_cons (ps_if (PW.pt (pw_or (pt_not (pt_val (pe_call G_is_law (hr.mono (by decide)) rfl T.g_is_law T.n_is_law.kp T.b_is_law .nil pass0 (pa_cons (pe_fld (pv 0) rfl) pa_nil)))) (pw_or1 (pt_not (pt_val (pe_call G_is_span (hr.mono (by decide)) rfl T.g_is_span T.n_is_span.kp T.b_is_span .nil pass0 (pa_cons (pe_fld (pv 0) rfl) (pa_cons (pe_fld (pv 0) rfl) pa_nil)))))))) (pss_one (ps_ret pe_bl)) pss_nil)
    (pss_cons (ps_if (PW.pt (pw_or (pt_not (pt_val (pe_call G_is_label (hr.mono (by decide)) rfl T.g_is_label T.n_is_label.kp T.b_is_label .nil pass0 (pa_cons (pe_fld (pv 0) rfl) pa_nil)))) (pw_or1 (pt_not (pt_val (pe_call G_is_text (hr.mono (by decide)) rfl T.g_is_text T.n_is_text.kp T.b_is_text .nil pass0 (pa_cons (pe_fld (pv 0) rfl) pa_nil))))))) (pss_one (ps_ret pe_bl)) pss_nil)
    (pss_cons (ps_if (pt_cmpR op_eq (pe_fld (pv 0) rfl) (pe_glob rfl T.g_PUT.choose_spec ⟨_, rfl⟩) (nomark _)) (pss_one (ps_ret (pe_call G_is_place (hr.mono (by decide)) rfl T.g_is_place T.n_is_place.kp T.b_is_place .nil pass0 (pa_cons (pe_fld (pv 0) rfl) pa_nil)))) pss_nil)
    (pss_cons (ps_if (pt_cmpR op_eq (pe_fld (pv 0) rfl) (pe_glob rfl T.g_WORD.choose_spec ⟨_, rfl⟩) (nomark _)) (pss_one (ps_ret (pe_call G_is_old (hr.mono (by decide)) rfl T.g_is_old T.n_is_old.kp T.b_is_old .nil pass0 (pa_cons (pe_fld (pv 0) rfl) pa_nil)))) pss_nil)
    (pss_cons (ps_if (pt_cmpR op_eq (pe_fld (pv 0) rfl) (pe_glob rfl T.g_NAME.choose_spec ⟨_, rfl⟩) (nomark _)) (pss_one (ps_ret (pe_and (pe_call G_is_label (hr.mono (by decide)) rfl T.g_is_label T.n_is_label.kp T.b_is_label .nil pass0 (pa_cons (pe_fld (pv 0) rfl) pa_nil)) (pe_one (pe_cmpR op_le (pe_fld (pv 0) rfl) (pe_glob rfl T.g_LAST_FOLLOW.choose_spec ⟨_, rfl⟩) (nomark _)))))) pss_nil)
    (pss_one (ps_ret pe_bl)))))))
def t_change_label (K : PySem.W.Frag) (A : Ad) (sp_Section_init sp_follow_label sp_is_short sp_place_of sp_set_section : Sp) : TS :=
  (tSeq (tIfS (tB (tNotN (tCall sp_place_of [] E0 (tCons (tVar 1) (tCons (tFld K (tVar 0) "to") tNil))))) (tRet (tC .non)) tNext)
    (tSeq (tAsg (tOp (rIxL K) (tVar 1) (tVar 2)) (gName 3))
    (tSeq (tAsg (tCall sp_set_section [] E0 (tCons (tVar 1) (tCons (tVar 2) (tCons (tMake A.c_Section sp_Section_init [] E0 (tCons (tFld K (tVar 0) "to") (tCons (tFld K (tVar 3) "text") (tCons (tFld K (tVar 3) "owners") tNil)))) tNil)))) (gName 4))
    (tSeq (tIfS (tTest (tOp rEq (tFld K (tVar 0) "follow") (tC (.int 0)))) (tRet (tVar 4)) tNext)
    (tSeq (tAsg (tLc (iList K (tVar 4)) (gName 6) tYes (tCall sp_follow_label [] E0 (tCons (tVar 6) (tCons (tFld K (tVar 0) "label") (tCons (tFld K (tVar 0) "to") (tCons (tFld K (tVar 0) "number") tNil))))) [6]) (gName 5))
    (tSeq (tIfS (tNot (tB (tCB (rAll K) (tCons (tLc (iList K (tVar 5)) (gName 6) tYes (tCall sp_is_short [] E0 (tCons (tVar 6) tNil)) [6]) tNil)))) (tRet (tC .non)) tNext)
    (tRet (tVar 5))))))))
theorem ok_change_label (T : Txt K mg A) {sp_Section_init : Sp} (G_Section_init : FnOk P w K mg base CX0 1 A.f_Section_init A.d_Section_init ["self", "label", "text", "owners"] sp_Section_init) {sp_follow_label : Sp} (G_follow_label : FnOk P w K mg base CX0 4 A.f_follow_label A.d_follow_label ["section", "label", "to", "owner"] sp_follow_label) {sp_is_short : Sp} (G_is_short : FnOk P w K mg base CX0 1 A.f_is_short A.d_is_short ["section"] sp_is_short) {sp_place_of : Sp} (G_place_of : FnOk P w K mg base CX0 1 A.f_place_of A.d_place_of ["sections", "label"] sp_place_of) {sp_set_section : Sp} (G_set_section : FnOk P w K mg base CX0 1 A.f_set_section A.d_set_section ["sections", "place", "section"] sp_set_section) {sp : Sp} (len : ∀ vs H Q E, sp vs H Q E → vs.length = 3)
    (pure : ∀ vs H Q E, sp vs H Q E → t_change_label K A sp_Section_init sp_follow_label sp_is_short sp_place_of sp_set_section { nx := fun _ H' => Q .non H', rt := Q } (start ["command", "sections", "place", "section", "named", "followed", "one"] vs) H) :
    FnOk P w K mg base CX0 5 A.f_change_label A.d_change_label ["command", "sections", "place"] sp := by
  refine T.n_change_label.ok sc_change_label len (fun cdv A' outer s H vs Q E hr h => ⟨t_change_label K A sp_Section_init sp_follow_label sp_is_short sp_place_of sp_set_section, ?_, pure vs H Q E h⟩)
  exact (pss_cons (ps_if (pt_cmp (pc_notN (pe_call G_place_of (hr.mono (by decide)) rfl T.g_place_of T.n_place_of.kp T.b_place_of .nil pass0 (pa_cons (pv 1) (pa_cons (pe_fld (pv 0) rfl) pa_nil))))) (pss_one (ps_ret pe_non)) pss_nil)
    (pss_cons (ps_set (i := 3) sc_change_label.nd rfl (Or.inl rfl) (pe_ix ix_list (pv 1) (pv 2) (fun _ _ => rfl)))
    (pss_cons (ps_set (i := 4) sc_change_label.nd rfl (Or.inl rfl) (pe_call G_set_section (hr.mono (by decide)) rfl T.g_set_section T.n_set_section.kp T.b_set_section .nil pass0 (pa_cons (pv 1) (pa_cons (pv 2) (pa_cons (pe_make T.mk_Section G_Section_init (hr.mono (by decide)) rfl T.g_Section T.b_Section_init .nil pass0 (pa_cons (pe_fld (pv 0) rfl) (pa_cons (pe_fld (pv 3) rfl) (pa_cons (pe_fld (pv 3) rfl) pa_nil)))) pa_nil)))))
    (pss_cons (ps_if (pt_cmpR op_eq (pe_fld (pv 0) rfl) pe_int (nomark _)) (pss_one (ps_ret (pv 4))) pss_nil)
    (pss_cons (ps_setLc (i := 5) (own := [("one", 6)]) (g := gName 6) (by rfl) sc_change_label.nd rfl rfl (sw_true rfl rfl rfl (by decide +kernel)) (pi_list (pv 4)) (blkOk_by (own := [("one", 6)]) (N := ["command", "sections", "place", "section", "named", "followed", "one"]) (sc := defScope s_change_label) (by decide +kernel)) (fun _ _ _ _ _ => pg_name (i := 6) sc_change_label.nd rfl (Or.inl rfl)) (fun _ _ _ _ _ => pts_nil) (fun _ _ _ _ _ => (pe_call G_follow_label (hr.mono (by decide)) rfl T.g_follow_label T.n_follow_label.kp T.b_follow_label .nil pass0 (pa_cons (pv 6) (pa_cons (pe_fld (pv 0) rfl) (pa_cons (pe_fld (pv 0) rfl) (pa_cons (pe_fld (pv 0) rfl) pa_nil)))))))
    (pss_cons (ps_if (pt_not (pt_val (pe_callB (cr_all rfl) (by rfl) T.z_all (by decide +kernel) (pa_cons (pe_lc (own := [("one", 6)]) (g := gName 6) (by rfl) sc_change_label.nd (pi_list (pv 5)) (blkOk_by (own := [("one", 6)]) (N := ["command", "sections", "place", "section", "named", "followed", "one"]) (sc := defScope s_change_label) (by decide +kernel)) (fun _ _ _ _ _ => pg_name (i := 6) sc_change_label.nd rfl (Or.inl rfl)) (fun _ _ _ _ _ => pts_nil) (fun _ _ _ _ _ => (pe_call G_is_short (hr.mono (by decide)) rfl T.g_is_short T.n_is_short.kp T.b_is_short .nil pass0 (pa_cons (pv 6) pa_nil)))) pa_nil)))) (pss_one (ps_ret pe_non)) pss_nil)
    (pss_one (ps_ret (pv 5)))))))))
def t_Laws_commands_of (K : PySem.W.Frag) (A : Ad) (sp_Record_valid_on sp_in_order : Sp) : TS :=
  (tRet (tCall sp_in_order [] E0 (tCons (tLc (iList K (tMeth A.c_Record "valid_on" sp_Record_valid_on [] E0 (tFld K (tVar 0) "record") (tCons (tVar 2) tNil))) (gName 3) (tTest (tOp rEq (tFld K (tVar 3) "law") (tVar 1))) (tVar 3) [3]) tNil)))
theorem ok_Laws_commands_of (T : Txt K mg A) {sp_Record_valid_on : Sp} (G_Record_valid_on : FnOk P w K mg base CX0 2 A.f_Record_valid_on A.d_Record_valid_on ["self", "day"] sp_Record_valid_on) {sp_in_order : Sp} (G_in_order : FnOk P w K mg base CX0 4 A.f_in_order A.d_in_order ["commands"] sp_in_order) {sp : Sp} (len : ∀ vs H Q E, sp vs H Q E → vs.length = 3)
    (pure : ∀ vs H Q E, sp vs H Q E → t_Laws_commands_of K A sp_Record_valid_on sp_in_order { nx := fun _ H' => Q .non H', rt := Q } (start ["self", "law", "known", "command"] vs) H) :
    FnOk P w K mg base CX0 5 A.f_Laws_commands_of A.d_Laws_commands_of ["self", "law", "known"] sp := by
  refine T.n_Laws_commands_of.ok sc_Laws_commands_of len (fun cdv A' outer s H vs Q E hr h => ⟨t_Laws_commands_of K A sp_Record_valid_on sp_in_order, ?_, pure vs H Q E h⟩)
  exact (pss_one (ps_ret (pe_call G_in_order (hr.mono (by decide)) rfl T.g_in_order T.n_in_order.kp T.b_in_order .nil pass0 (pa_cons (pe_lc (own := [("command", 3)]) (g := gName 3) (by rfl) sc_Laws_commands_of.nd (pi_list (pe_meth (pe_fld (pv 0) rfl) T.cl_Record T.m_Record_valid_on G_Record_valid_on (hr.mono (by decide)) T.b_Record_valid_on .nil pass0 (pa_cons (pv 2) pa_nil))) (blkOk_by (own := [("command", 3)]) (N := ["self", "law", "known", "command"]) (sc := defScope s_Laws_commands_of) (by decide +kernel)) (fun _ _ _ _ _ => pg_name (i := 3) sc_Laws_commands_of.nd rfl (Or.inl rfl)) (fun _ _ _ _ _ => (pts_one (pt_cmpR op_eq (pe_fld (pv 3) rfl) (pv 1) (nomark _)))) (fun _ _ _ _ _ => (pv 3))) pa_nil))))
def t_effect_of (K : PySem.W.Frag) (A : Ad) (sp_change_label sp_change_word sp_new_section sp_place_of sp_put_section sp_set_section : Sp) : TS :=
  (tSeq (tIfS (tTest (tOp rEq (tFld K (tVar 0) "kind") (tC (.int (2))))) (tRet (tCall sp_put_section [] E0 (tCons (tVar 0) (tCons (tVar 1) tNil)))) tNext)
    (tSeq (tAsg (tCall sp_place_of [] E0 (tCons (tVar 1) (tCons (tFld K (tVar 0) "label") tNil))) (gName 2))
    (tSeq (tIfS (tB (tIsN (tVar 2))) (tRet (tC .non)) tNext)
    (tSeq (tIfS (tTest (tOp rEq (tFld K (tVar 0) "kind") (tC (.int (3))))) (tRet (tOp rCat (tSl (rSlL K) (tVar 1) tNoPart (tPart (tVar 2))) (tSl (rSlL K) (tVar 1) (tPart (tOp oAdd (tVar 2) (tC (.int 1)))) tNoPart))) tNext)
    (tSeq (tIfS (tTest (tOp rEq (tFld K (tVar 0) "kind") (tC (.int (4))))) (tRet (tCall sp_set_section [] E0 (tCons (tVar 1) (tCons (tVar 2) (tCons (tCall sp_new_section [] E0 (tCons (tFld K (tVar 0) "label") (tCons (tFld K (tVar 0) "text") (tCons (tFld K (tVar 0) "number") tNil)))) tNil))))) tNext)
    (tSeq (tIfS (tTest (tOp rEq (tFld K (tVar 0) "kind") (tC (.int (5))))) (tRet (tCall sp_change_word [] E0 (tCons (tVar 0) (tCons (tVar 1) (tCons (tVar 2) tNil))))) tNext)
    (tRet (tCall sp_change_label [] E0 (tCons (tVar 0) (tCons (tVar 1) (tCons (tVar 2) tNil)))))))))))
theorem ok_effect_of (T : Txt K mg A) {sp_change_label : Sp} (G_change_label : FnOk P w K mg base CX0 5 A.f_change_label A.d_change_label ["command", "sections", "place"] sp_change_label) {sp_change_word : Sp} (G_change_word : FnOk P w K mg base CX0 4 A.f_change_word A.d_change_word ["command", "sections", "place"] sp_change_word) {sp_new_section : Sp} (G_new_section : FnOk P w K mg base CX0 3 A.f_new_section A.d_new_section ["label", "text", "owner"] sp_new_section) {sp_place_of : Sp} (G_place_of : FnOk P w K mg base CX0 1 A.f_place_of A.d_place_of ["sections", "label"] sp_place_of) {sp_put_section : Sp} (G_put_section : FnOk P w K mg base CX0 4 A.f_put_section A.d_put_section ["command", "sections"] sp_put_section) {sp_set_section : Sp} (G_set_section : FnOk P w K mg base CX0 1 A.f_set_section A.d_set_section ["sections", "place", "section"] sp_set_section) {sp : Sp} (len : ∀ vs H Q E, sp vs H Q E → vs.length = 2)
    (pure : ∀ vs H Q E, sp vs H Q E → t_effect_of K A sp_change_label sp_change_word sp_new_section sp_place_of sp_put_section sp_set_section { nx := fun _ H' => Q .non H', rt := Q } (start ["command", "sections", "place"] vs) H) :
    FnOk P w K mg base CX0 6 A.f_effect_of A.d_effect_of ["command", "sections"] sp := by
  refine T.n_effect_of.ok sc_effect_of len (fun cdv A' outer s H vs Q E hr h => ⟨t_effect_of K A sp_change_label sp_change_word sp_new_section sp_place_of sp_put_section sp_set_section, ?_, pure vs H Q E h⟩)
  exact (pss_cons (ps_if (pt_cmpR op_eq (pe_fld (pv 0) rfl) (pe_glob rfl T.g_PUT.choose_spec ⟨_, rfl⟩) (nomark _)) (pss_one (ps_ret (pe_call G_put_section (hr.mono (by decide)) rfl T.g_put_section T.n_put_section.kp T.b_put_section .nil pass0 (pa_cons (pv 0) (pa_cons (pv 1) pa_nil))))) pss_nil)
    (pss_cons (ps_set (i := 2) sc_effect_of.nd rfl (Or.inl rfl) (pe_call G_place_of (hr.mono (by decide)) rfl T.g_place_of T.n_place_of.kp T.b_place_of .nil pass0 (pa_cons (pv 1) (pa_cons (pe_fld (pv 0) rfl) pa_nil))))
    (pss_cons (ps_if (pt_cmp (pc_isN (pv 2))) (pss_one (ps_ret pe_non)) pss_nil)
    (pss_cons (ps_if (pt_cmpR op_eq (pe_fld (pv 0) rfl) (pe_glob rfl T.g_TAKE.choose_spec ⟨_, rfl⟩) (nomark _)) (pss_one (ps_ret (pe_op op_cat (pe_slice sl_list (pv 1) po_none (po_some (pv 2))) (pe_slice sl_list (pv 1) (po_some (pe_op op_add (pv 2) pe_int)) po_none)))) pss_nil)
    (pss_cons (ps_if (pt_cmpR op_eq (pe_fld (pv 0) rfl) (pe_glob rfl T.g_TEXT.choose_spec ⟨_, rfl⟩) (nomark _)) (pss_one (ps_ret (pe_call G_set_section (hr.mono (by decide)) rfl T.g_set_section T.n_set_section.kp T.b_set_section .nil pass0 (pa_cons (pv 1) (pa_cons (pv 2) (pa_cons (pe_call G_new_section (hr.mono (by decide)) rfl T.g_new_section T.n_new_section.kp T.b_new_section .nil pass0 (pa_cons (pe_fld (pv 0) rfl) (pa_cons (pe_fld (pv 0) rfl) (pa_cons (pe_fld (pv 0) rfl) pa_nil)))) pa_nil)))))) pss_nil)
    (pss_cons (ps_if (pt_cmpR op_eq (pe_fld (pv 0) rfl) (pe_glob rfl T.g_WORD.choose_spec ⟨_, rfl⟩) (nomark _)) (pss_one (ps_ret (pe_call G_change_word (hr.mono (by decide)) rfl T.g_change_word T.n_change_word.kp T.b_change_word .nil pass0 (pa_cons (pv 0) (pa_cons (pv 1) (pa_cons (pv 2) pa_nil)))))) pss_nil)
    (pss_one (ps_ret (pe_call G_change_label (hr.mono (by decide)) rfl T.g_change_label T.n_change_label.kp T.b_change_label .nil pass0 (pa_cons (pv 0) (pa_cons (pv 1) (pa_cons (pv 2) pa_nil))))))))))))
def t_Record_add_command (K : PySem.W.Frag) (A : Ad) (sp_Record_keep sp_is_sound : Sp) : TS :=
  (tSeq (tIfS (tNot (tB (tCall sp_is_sound [] E0 (tCons (tVar 1) tNil)))) (tRet (tC (.int (-1)))) tNext)
    (tRet (tMeth A.c_Record "keep" sp_Record_keep [] E0 (tVar 0) (tCons (tVar 1) tNil))))
theorem ok_Record_add_command (T : Txt K mg A) {sp_Record_keep : Sp} (G_Record_keep : FnOk P w K mg base CX0 2 A.f_Record_keep A.d_Record_keep ["self", "command"] sp_Record_keep) {sp_is_sound : Sp} (G_is_sound : FnOk P w K mg base CX0 5 A.f_is_sound A.d_is_sound ["command"] sp_is_sound) {sp : Sp} (len : ∀ vs H Q E, sp vs H Q E → vs.length = 2)
    (pure : ∀ vs H Q E, sp vs H Q E → t_Record_add_command K A sp_Record_keep sp_is_sound { nx := fun _ H' => Q .non H', rt := Q } (start ["self", "command"] vs) H) :
    FnOk P w K mg base CX0 6 A.f_Record_add_command A.d_Record_add_command ["self", "command"] sp := by
  refine T.n_Record_add_command.ok sc_Record_add_command len (fun cdv A' outer s H vs Q E hr h => ⟨t_Record_add_command K A sp_Record_keep sp_is_sound, ?_, pure vs H Q E h⟩)
  exact (pss_cons (ps_if (pt_not (pt_val (pe_call G_is_sound (hr.mono (by decide)) rfl T.g_is_sound T.n_is_sound.kp T.b_is_sound .nil pass0 (pa_cons (pv 1) pa_nil)))) (pss_one (ps_ret (pe_glob rfl T.g_WRONG.choose_spec ⟨_, rfl⟩))) pss_nil)
    (pss_one (ps_ret (pe_meth (pv 0) T.cl_Record T.m_Record_keep G_Record_keep (hr.mono (by decide)) T.b_Record_keep .nil pass0 (pa_cons (pv 1) pa_nil)))))
def t_Course_take_one (K : PySem.W.Frag) (A : Ad) (sp_Course_sections_now sp_Step_init sp_effect_of : Sp) : TS :=
  (tSeq (tAsg (tMeth A.c_Course "sections_now" sp_Course_sections_now [] E0 (tVar 0) tNil) (gName 2))
    (tSeq (tAsg (tCall sp_effect_of [] E0 (tCons (tVar 1) (tCons (tVar 2) tNil))) (gName 3))
    (tIfS (tB (tIsN (tVar 3))) (tDrop (tBM K "list" rAppend (tFld K (tVar 0) "steps") (tCons (tMake A.c_Step sp_Step_init [] E0 (tCons (tFld K (tVar 1) "number") (tCons (tC (.bl false)) (tCons (tVar 2) tNil)))) tNil))) (tDrop (tBM K "list" rAppend (tFld K (tVar 0) "steps") (tCons (tMake A.c_Step sp_Step_init [] E0 (tCons (tFld K (tVar 1) "number") (tCons (tC (.bl true)) (tCons (tVar 3) tNil)))) tNil))))))
theorem ok_Course_take_one (T : Txt K mg A) {sp_Course_sections_now : Sp} (G_Course_sections_now : FnOk P w K mg base CX0 1 A.f_Course_sections_now A.d_Course_sections_now ["self"] sp_Course_sections_now) {sp_Step_init : Sp} (G_Step_init : FnOk P w K mg base CX0 1 A.f_Step_init A.d_Step_init ["self", "number", "has_effect", "sections"] sp_Step_init) {sp_effect_of : Sp} (G_effect_of : FnOk P w K mg base CX0 6 A.f_effect_of A.d_effect_of ["command", "sections"] sp_effect_of) {sp : Sp} (len : ∀ vs H Q E, sp vs H Q E → vs.length = 2)
    (pure : ∀ vs H Q E, sp vs H Q E → t_Course_take_one K A sp_Course_sections_now sp_Step_init sp_effect_of { nx := fun _ H' => Q .non H', rt := Q } (start ["self", "command", "before", "behind"] vs) H) :
    FnOk P w K mg base CX0 7 A.f_Course_take_one A.d_Course_take_one ["self", "command"] sp := by
  refine T.n_Course_take_one.ok sc_Course_take_one len (fun cdv A' outer s H vs Q E hr h => ⟨t_Course_take_one K A sp_Course_sections_now sp_Step_init sp_effect_of, ?_, pure vs H Q E h⟩)
  exact (pss_cons (ps_set (i := 2) sc_Course_take_one.nd rfl (Or.inl rfl) (pe_meth0 (pv 0) T.cl_Course T.m_Course_sections_now G_Course_sections_now (hr.mono (by decide)) T.b_Course_sections_now .nil pass0))
    (pss_cons (ps_set (i := 3) sc_Course_take_one.nd rfl (Or.inl rfl) (pe_call G_effect_of (hr.mono (by decide)) rfl T.g_effect_of T.n_effect_of.kp T.b_effect_of .nil pass0 (pa_cons (pv 1) (pa_cons (pv 2) pa_nil))))
    (pss_one (ps_if (pt_cmp (pc_isN (pv 3))) (pss_one (ps_expr (pe_bm PySem.F.plainAttrs_list PySem.F.slot_list_append PySem.F.type_list_append mt_append (pe_fld (pv 0) rfl) (pa_cons (pe_make T.mk_Step G_Step_init (hr.mono (by decide)) rfl T.g_Step T.b_Step_init .nil pass0 (pa_cons (pe_fld (pv 1) rfl) (pa_cons pe_bl (pa_cons (pv 2) pa_nil)))) pa_nil)))) (pss_one (ps_expr (pe_bm PySem.F.plainAttrs_list PySem.F.slot_list_append PySem.F.type_list_append mt_append (pe_fld (pv 0) rfl) (pa_cons (pe_make T.mk_Step G_Step_init (hr.mono (by decide)) rfl T.g_Step T.b_Step_init .nil pass0 (pa_cons (pe_fld (pv 1) rfl) (pa_cons pe_bl (pa_cons (pv 3) pa_nil)))) pa_nil))))))))
def t_Course_take_all (K : PySem.W.Frag) (A : Ad) (sp_Course_keep_same sp_Course_sections_now sp_Course_take_one : Sp) : TS :=
  (tSeq (tDrop (tMeth A.c_Course "keep_same" sp_Course_keep_same [] E0 (tVar 0) (tCons (tVar 1) tNil)))
    (tSeq (tFor (iList K (tSl (rSlL K) (tVar 1) (tPart (tCB (oLen K) (tCons (tFld K (tVar 0) "steps") tNil))) tNoPart)) (gName 2) (tDrop (tMeth A.c_Course "take_one" sp_Course_take_one [] E0 (tVar 0) (tCons (tVar 2) tNil))))
    (tRet (tMeth A.c_Course "sections_now" sp_Course_sections_now [] E0 (tVar 0) tNil))))
theorem ok_Course_take_all (T : Txt K mg A) {sp_Course_keep_same : Sp} (G_Course_keep_same : FnOk P w K mg base CX0 1 A.f_Course_keep_same A.d_Course_keep_same ["self", "commands"] sp_Course_keep_same) {sp_Course_sections_now : Sp} (G_Course_sections_now : FnOk P w K mg base CX0 1 A.f_Course_sections_now A.d_Course_sections_now ["self"] sp_Course_sections_now) {sp_Course_take_one : Sp} (G_Course_take_one : FnOk P w K mg base CX0 7 A.f_Course_take_one A.d_Course_take_one ["self", "command"] sp_Course_take_one) {sp : Sp} (len : ∀ vs H Q E, sp vs H Q E → vs.length = 2)
    (pure : ∀ vs H Q E, sp vs H Q E → t_Course_take_all K A sp_Course_keep_same sp_Course_sections_now sp_Course_take_one { nx := fun _ H' => Q .non H', rt := Q } (start ["self", "commands", "command"] vs) H) :
    FnOk P w K mg base CX0 8 A.f_Course_take_all A.d_Course_take_all ["self", "commands"] sp := by
  refine T.n_Course_take_all.ok sc_Course_take_all len (fun cdv A' outer s H vs Q E hr h => ⟨t_Course_take_all K A sp_Course_keep_same sp_Course_sections_now sp_Course_take_one, ?_, pure vs H Q E h⟩)
  exact (pss_cons (ps_expr (pe_meth (pv 0) T.cl_Course T.m_Course_keep_same G_Course_keep_same (hr.mono (by decide)) T.b_Course_keep_same .nil pass0 (pa_cons (pv 1) pa_nil)))
    (pss_cons (ps_for PassesOwn.never rfl (pi_list (pe_slice sl_list (pv 1) (po_some (pe_callB call_len_seq (by rfl) T.z_len PySem.boot_len (pa_cons (pe_fld (pv 0) rfl) pa_nil))) po_none)) (pg_name (i := 2) sc_Course_take_all.nd rfl (Or.inl rfl)) (pss_one (ps_expr (pe_meth (pv 0) T.cl_Course T.m_Course_take_one G_Course_take_one (hr.mono (by decide)) T.b_Course_take_one .nil pass0 (pa_cons (pv 2) pa_nil)))))
    (pss_one (ps_ret (pe_meth0 (pv 0) T.cl_Course T.m_Course_sections_now G_Course_sections_now (hr.mono (by decide)) T.b_Course_sections_now .nil pass0)))))
def t_Laws_sections_by (K : PySem.W.Frag) (A : Ad) (sp_Course_take_all sp_Laws_course_of sp_counting_on : Sp) : TS :=
  (tRet (tMeth A.c_Course "take_all" sp_Course_take_all [] E0 (tMeth A.c_Laws "course_of" sp_Laws_course_of [] E0 (tVar 0) (tCons (tVar 1) tNil)) (tCons (tCall sp_counting_on [] E0 (tCons (tVar 2) (tCons (tVar 3) tNil))) tNil)))
theorem ok_Laws_sections_by (T : Txt K mg A) {sp_Course_take_all : Sp} (G_Course_take_all : FnOk P w K mg base CX0 8 A.f_Course_take_all A.d_Course_take_all ["self", "commands"] sp_Course_take_all) {sp_Laws_course_of : Sp} (G_Laws_course_of : FnOk P w K mg base CX0 3 A.f_Laws_course_of A.d_Laws_course_of ["self", "law"] sp_Laws_course_of) {sp_counting_on : Sp} (G_counting_on : FnOk P w K mg base CX0 1 A.f_counting_on A.d_counting_on ["commands", "day"] sp_counting_on) {sp : Sp} (len : ∀ vs H Q E, sp vs H Q E → vs.length = 4)
    (pure : ∀ vs H Q E, sp vs H Q E → t_Laws_sections_by K A sp_Course_take_all sp_Laws_course_of sp_counting_on { nx := fun _ H' => Q .non H', rt := Q } (start ["self", "law", "commands", "on"] vs) H) :
    FnOk P w K mg base CX0 9 A.f_Laws_sections_by A.d_Laws_sections_by ["self", "law", "commands", "on"] sp := by
  refine T.n_Laws_sections_by.ok sc_Laws_sections_by len (fun cdv A' outer s H vs Q E hr h => ⟨t_Laws_sections_by K A sp_Course_take_all sp_Laws_course_of sp_counting_on, ?_, pure vs H Q E h⟩)
  exact (pss_one (ps_ret (pe_meth (pe_meth (pv 0) T.cl_Laws T.m_Laws_course_of G_Laws_course_of (hr.mono (by decide)) T.b_Laws_course_of .nil pass0 (pa_cons (pv 1) pa_nil)) T.cl_Course T.m_Course_take_all G_Course_take_all (hr.mono (by decide)) T.b_Course_take_all .nil pass0 (pa_cons (pe_call G_counting_on (hr.mono (by decide)) rfl T.g_counting_on T.n_counting_on.kp T.b_counting_on .nil pass0 (pa_cons (pv 2) (pa_cons (pv 3) pa_nil))) pa_nil))))
def t_Laws_without_effect (K : PySem.W.Frag) (A : Ad) (sp_Course_take_all sp_Course_without_effect sp_Laws_course_of sp_Record_valid_on sp_counting_on sp_in_order : Sp) : TS :=
  (tSeq (tAsg (tLst tNil) (gName 3))
    (tSeq (tAsg tDNewK (gName 4))
    (tSeq (tFor (iList K (tCall sp_counting_on [] E0 (tCons (tMeth A.c_Record "valid_on" sp_Record_valid_on [] E0 (tFld K (tVar 0) "record") (tCons (tVar 2) tNil)) (tCons (tVar 1) tNil)))) (gName 5) (tDrop (tBM K "list" rAppend (tDSetd (tVar 4) (tFld K (tVar 5) "law") (tLst tNil)) (tCons (tVar 5) tNil))))
    (tSeq (tLock (tFor (iKeys (tVar 4)) (gName 6) (tSeq (tAsg (tMeth A.c_Laws "course_of" sp_Laws_course_of [] E0 (tVar 0) (tCons (tVar 6) tNil)) (gName 7))
        (tSeq (tDrop (tMeth A.c_Course "take_all" sp_Course_take_all [] E0 (tVar 7) (tCons (tCall sp_in_order [] E0 (tCons (tDGet (tVar 4) (tVar 6)) tNil)) tNil)))
        (tDrop (tBM K "list" rExtend (tVar 3) (tCons (tMeth A.c_Course "without_effect" sp_Course_without_effect [] E0 (tVar 7) tNil) tNil)))))))
    (tRet (tCB (rSortedI K) (tCons (tVar 3) tNil)))))))
theorem ok_Laws_without_effect (T : Txt K mg A) {sp_Course_take_all : Sp} (G_Course_take_all : FnOk P w K mg base CX0 8 A.f_Course_take_all A.d_Course_take_all ["self", "commands"] sp_Course_take_all) {sp_Course_without_effect : Sp} (G_Course_without_effect : FnOk P w K mg base CX0 1 A.f_Course_without_effect A.d_Course_without_effect ["self"] sp_Course_without_effect) {sp_Laws_course_of : Sp} (G_Laws_course_of : FnOk P w K mg base CX0 3 A.f_Laws_course_of A.d_Laws_course_of ["self", "law"] sp_Laws_course_of) {sp_Record_valid_on : Sp} (G_Record_valid_on : FnOk P w K mg base CX0 2 A.f_Record_valid_on A.d_Record_valid_on ["self", "day"] sp_Record_valid_on) {sp_counting_on : Sp} (G_counting_on : FnOk P w K mg base CX0 1 A.f_counting_on A.d_counting_on ["commands", "day"] sp_counting_on) {sp_in_order : Sp} (G_in_order : FnOk P w K mg base CX0 4 A.f_in_order A.d_in_order ["commands"] sp_in_order) {sp : Sp} (len : ∀ vs H Q E, sp vs H Q E → vs.length = 3)
    (pure : ∀ vs H Q E, sp vs H Q E → t_Laws_without_effect K A sp_Course_take_all sp_Course_without_effect sp_Laws_course_of sp_Record_valid_on sp_counting_on sp_in_order { nx := fun _ H' => Q .non H', rt := Q } (start ["self", "on", "known", "found", "by_law", "command", "law", "course"] vs) H) :
    FnOk P w K mg base CX0 9 A.f_Laws_without_effect A.d_Laws_without_effect ["self", "on", "known"] sp := by
  refine T.n_Laws_without_effect.ok sc_Laws_without_effect len (fun cdv A' outer s H vs Q E hr h => ⟨t_Laws_without_effect K A sp_Course_take_all sp_Course_without_effect sp_Laws_course_of sp_Record_valid_on sp_counting_on sp_in_order, ?_, pure vs H Q E h⟩)
  exact (pss_cons (ps_set (i := 3) sc_Laws_without_effect.nd rfl (Or.inl rfl) (pe_lst pa_nil))
    (pss_cons (ps_set (i := 4) sc_Laws_without_effect.nd rfl (Or.inl rfl) pe_dnewK)
    (pss_cons (ps_for PassesOwn.never rfl (pi_list (pe_call G_counting_on (hr.mono (by decide)) rfl T.g_counting_on T.n_counting_on.kp T.b_counting_on .nil pass0 (pa_cons (pe_meth (pe_fld (pv 0) rfl) T.cl_Record T.m_Record_valid_on G_Record_valid_on (hr.mono (by decide)) T.b_Record_valid_on .nil pass0 (pa_cons (pv 2) pa_nil)) (pa_cons (pv 1) pa_nil)))) (pg_name (i := 5) sc_Laws_without_effect.nd rfl (Or.inl rfl)) (pss_one (ps_expr (pe_bm PySem.F.plainAttrs_list PySem.F.slot_list_append PySem.F.type_list_append mt_append (pe_dsetd (pv 4) (pe_fld (pv 5) rfl) (pe_lst pa_nil) ⟨rfl, rfl, rfl, rfl⟩) (pa_cons (pv 5) pa_nil)))))
    (pss_cons (ps_lock (ps_for PassesOwn.never rfl (pi_keys (pv 4)) (pg_name (i := 6) sc_Laws_without_effect.nd rfl (Or.inl rfl)) (pss_cons (ps_set (i := 7) sc_Laws_without_effect.nd rfl (Or.inl rfl) (pe_meth (pv 0) T.cl_Laws T.m_Laws_course_of G_Laws_course_of (hr.mono (by decide)) T.b_Laws_course_of .nil pass0 (pa_cons (pv 6) pa_nil)))
        (pss_cons (ps_expr (pe_meth (pv 7) T.cl_Course T.m_Course_take_all G_Course_take_all (hr.mono (by decide)) T.b_Course_take_all .nil pass0 (pa_cons (pe_call G_in_order (hr.mono (by decide)) rfl T.g_in_order T.n_in_order.kp T.b_in_order .nil pass0 (pa_cons (pe_dget (hu_of hr) (pv 4) (pv 6) (fun _ _ => rfl)) pa_nil)) pa_nil)))
        (pss_one (ps_expr (pe_bm PySem.F.plainAttrs_list PySem.F.slot_list_extend PySem.F.type_list_extend mt_extend (pv 3) (pa_cons (pe_meth0 (pv 7) T.cl_Course T.m_Course_without_effect G_Course_without_effect (hr.mono (by decide)) T.b_Course_without_effect .nil pass0) pa_nil))))))))
    (pss_one (ps_ret (pe_callB cr_sortedI (by rfl) T.z_sorted (by decide +kernel) (pa_cons (pv 3) pa_nil))))))))
def t_Laws_sections_of (K : PySem.W.Frag) (A : Ad) (sp_Laws_commands_of sp_Laws_sections_by : Sp) : TS :=
  (tRet (tMeth A.c_Laws "sections_by" sp_Laws_sections_by [] E0 (tVar 0) (tCons (tVar 1) (tCons (tMeth A.c_Laws "commands_of" sp_Laws_commands_of [] E0 (tVar 0) (tCons (tVar 1) (tCons (tVar 3) tNil))) (tCons (tVar 2) tNil)))))
theorem ok_Laws_sections_of (T : Txt K mg A) {sp_Laws_commands_of : Sp} (G_Laws_commands_of : FnOk P w K mg base CX0 5 A.f_Laws_commands_of A.d_Laws_commands_of ["self", "law", "known"] sp_Laws_commands_of) {sp_Laws_sections_by : Sp} (G_Laws_sections_by : FnOk P w K mg base CX0 9 A.f_Laws_sections_by A.d_Laws_sections_by ["self", "law", "commands", "on"] sp_Laws_sections_by) {sp : Sp} (len : ∀ vs H Q E, sp vs H Q E → vs.length = 4)
    (pure : ∀ vs H Q E, sp vs H Q E → t_Laws_sections_of K A sp_Laws_commands_of sp_Laws_sections_by { nx := fun _ H' => Q .non H', rt := Q } (start ["self", "law", "on", "known"] vs) H) :
    FnOk P w K mg base CX0 10 A.f_Laws_sections_of A.d_Laws_sections_of ["self", "law", "on", "known"] sp := by
  refine T.n_Laws_sections_of.ok sc_Laws_sections_of len (fun cdv A' outer s H vs Q E hr h => ⟨t_Laws_sections_of K A sp_Laws_commands_of sp_Laws_sections_by, ?_, pure vs H Q E h⟩)
  exact (pss_one (ps_ret (pe_meth (pv 0) T.cl_Laws T.m_Laws_sections_by G_Laws_sections_by (hr.mono (by decide)) T.b_Laws_sections_by .nil pass0 (pa_cons (pv 1) (pa_cons (pe_meth (pv 0) T.cl_Laws T.m_Laws_commands_of G_Laws_commands_of (hr.mono (by decide)) T.b_Laws_commands_of .nil pass0 (pa_cons (pv 1) (pa_cons (pv 3) pa_nil))) (pa_cons (pv 2) pa_nil))))))
def t_tell_idle (K : PySem.W.Frag) (A : Ad) (sp_Laws_without_effect sp_is_day : Sp) : TS :=
  (tSeq (tIfS (tOr (tNot (tB (tCall sp_is_day [] E0 (tCons (tVar 1) tNil)))) (tNot (tB (tCall sp_is_day [] E0 (tCons (tVar 2) tNil))))) (tRet (tLst (tCons (tC (.int (-1))) tNil))) tNext)
    (tRet (tOp rCat (tLst (tCons (tC (.int (0))) tNil)) (tMeth A.c_Laws "without_effect" sp_Laws_without_effect [] E0 (tVar 0) (tCons (tVar 1) (tCons (tVar 2) tNil))))))
theorem ok_tell_idle (T : Txt K mg A) {sp_Laws_without_effect : Sp} (G_Laws_without_effect : FnOk P w K mg base CX0 9 A.f_Laws_without_effect A.d_Laws_without_effect ["self", "on", "known"] sp_Laws_without_effect) {sp_is_day : Sp} (G_is_day : FnOk P w K mg base CX0 1 A.f_is_day A.d_is_day ["day"] sp_is_day) {sp : Sp} (len : ∀ vs H Q E, sp vs H Q E → vs.length = 3)
    (pure : ∀ vs H Q E, sp vs H Q E → t_tell_idle K A sp_Laws_without_effect sp_is_day { nx := fun _ H' => Q .non H', rt := Q } (start ["laws", "on", "known"] vs) H) :
    FnOk P w K mg base CX0 10 A.f_tell_idle A.d_tell_idle ["laws", "on", "known"] sp := by
  refine T.n_tell_idle.ok sc_tell_idle len (fun cdv A' outer s H vs Q E hr h => ⟨t_tell_idle K A sp_Laws_without_effect sp_is_day, ?_, pure vs H Q E h⟩)
  exact (pss_cons (ps_if (PW.pt (pw_or (pt_not (pt_val (pe_call G_is_day (hr.mono (by decide)) rfl T.g_is_day T.n_is_day.kp T.b_is_day .nil pass0 (pa_cons (pv 1) pa_nil)))) (pw_or1 (pt_not (pt_val (pe_call G_is_day (hr.mono (by decide)) rfl T.g_is_day T.n_is_day.kp T.b_is_day .nil pass0 (pa_cons (pv 2) pa_nil))))))) (pss_one (ps_ret (pe_lst (pa_cons (pe_glob rfl T.g_WRONG.choose_spec ⟨_, rfl⟩) pa_nil)))) pss_nil)
    (pss_one (ps_ret (pe_op op_cat (pe_lst (pa_cons (pe_glob rfl T.g_TOLD.choose_spec ⟨_, rfl⟩) pa_nil)) (pe_meth (pv 0) T.cl_Laws T.m_Laws_without_effect G_Laws_without_effect (hr.mono (by decide)) T.b_Laws_without_effect .nil pass0 (pa_cons (pv 1) (pa_cons (pv 2) pa_nil)))))))
def t_tell_next (K : PySem.W.Frag) (A : Ad) (sp_Laws_commands_of sp_Laws_sections_by sp_days_above sp_find_text sp_is_askable sp_is_label : Sp) : TS :=
  (tSeq (tIfS (tOr (tNot (tB (tCall sp_is_askable [] E0 (tCons (tVar 1) (tCons (tVar 3) (tCons (tVar 4) tNil)))))) (tNot (tB (tCall sp_is_label [] E0 (tCons (tVar 2) tNil))))) (tRet (tLst (tCons (tC (.int (-1))) tNil))) tNext)
    (tSeq (tAsg (tMeth A.c_Laws "commands_of" sp_Laws_commands_of [] E0 (tVar 0) (tCons (tVar 1) (tCons (tVar 4) tNil))) (gName 5))
    (tSeq (tAsg (tCall sp_find_text [] E0 (tCons (tMeth A.c_Laws "sections_by" sp_Laws_sections_by [] E0 (tVar 0) (tCons (tVar 1) (tCons (tVar 5) (tCons (tVar 3) tNil)))) (tCons (tVar 2) tNil))) (gName 6))
    (tSeq (tFor (iList K (tCall sp_days_above [] E0 (tCons (tVar 5) (tCons (tVar 3) tNil)))) (gName 7) (tIfS (tTest (tOp (rNeD K) (tCall sp_find_text [] E0 (tCons (tMeth A.c_Laws "sections_by" sp_Laws_sections_by [] E0 (tVar 0) (tCons (tVar 1) (tCons (tVar 5) (tCons (tVar 7) tNil)))) (tCons (tVar 2) tNil))) (tVar 6))) (tRet (tLst (tCons (tC (.int (1))) (tCons (tVar 7) tNil)))) tNext))
    (tRet (tLst (tCons (tC (.int (0))) tNil)))))))
theorem ok_tell_next (T : Txt K mg A) {sp_Laws_commands_of : Sp} (G_Laws_commands_of : FnOk P w K mg base CX0 5 A.f_Laws_commands_of A.d_Laws_commands_of ["self", "law", "known"] sp_Laws_commands_of) {sp_Laws_sections_by : Sp} (G_Laws_sections_by : FnOk P w K mg base CX0 9 A.f_Laws_sections_by A.d_Laws_sections_by ["self", "law", "commands", "on"] sp_Laws_sections_by) {sp_days_above : Sp} (G_days_above : FnOk P w K mg base CX0 1 A.f_days_above A.d_days_above ["commands", "on"] sp_days_above) {sp_find_text : Sp} (G_find_text : FnOk P w K mg base CX0 3 A.f_find_text A.d_find_text ["sections", "label"] sp_find_text) {sp_is_askable : Sp} (G_is_askable : FnOk P w K mg base CX0 2 A.f_is_askable A.d_is_askable ["law", "on", "known"] sp_is_askable) {sp_is_label : Sp} (G_is_label : FnOk P w K mg base CX0 3 A.f_is_label A.d_is_label ["row"] sp_is_label) {sp : Sp} (len : ∀ vs H Q E, sp vs H Q E → vs.length = 5)
    (pure : ∀ vs H Q E, sp vs H Q E → t_tell_next K A sp_Laws_commands_of sp_Laws_sections_by sp_days_above sp_find_text sp_is_askable sp_is_label { nx := fun _ H' => Q .non H', rt := Q } (start ["laws", "law", "label", "on", "known", "commands", "text", "day"] vs) H) :
    FnOk P w K mg base CX0 10 A.f_tell_next A.d_tell_next ["laws", "law", "label", "on", "known"] sp := by
  refine T.n_tell_next.ok sc_tell_next len (fun cdv A' outer s H vs Q E hr h => ⟨t_tell_next K A sp_Laws_commands_of sp_Laws_sections_by sp_days_above sp_find_text sp_is_askable sp_is_label, ?_, pure vs H Q E h⟩)
  exact (pss_cons (ps_if (PW.pt (pw_or (pt_not (pt_val (pe_call G_is_askable (hr.mono (by decide)) rfl T.g_is_askable T.n_is_askable.kp T.b_is_askable .nil pass0 (pa_cons (pv 1) (pa_cons (pv 3) (pa_cons (pv 4) pa_nil)))))) (pw_or1 (pt_not (pt_val (pe_call G_is_label (hr.mono (by decide)) rfl T.g_is_label T.n_is_label.kp T.b_is_label .nil pass0 (pa_cons (pv 2) pa_nil))))))) (pss_one (ps_ret (pe_lst (pa_cons (pe_glob rfl T.g_WRONG.choose_spec ⟨_, rfl⟩) pa_nil)))) pss_nil)
    (pss_cons (ps_set (i := 5) sc_tell_next.nd rfl (Or.inl rfl) (pe_meth (pv 0) T.cl_Laws T.m_Laws_commands_of G_Laws_commands_of (hr.mono (by decide)) T.b_Laws_commands_of .nil pass0 (pa_cons (pv 1) (pa_cons (pv 4) pa_nil))))
    (pss_cons (ps_set (i := 6) sc_tell_next.nd rfl (Or.inl rfl) (pe_call G_find_text (hr.mono (by decide)) rfl T.g_find_text T.n_find_text.kp T.b_find_text .nil pass0 (pa_cons (pe_meth (pv 0) T.cl_Laws T.m_Laws_sections_by G_Laws_sections_by (hr.mono (by decide)) T.b_Laws_sections_by .nil pass0 (pa_cons (pv 1) (pa_cons (pv 5) (pa_cons (pv 3) pa_nil)))) (pa_cons (pv 2) pa_nil))))
    (pss_cons (ps_for PassesOwn.never rfl (pi_list (pe_call G_days_above (hr.mono (by decide)) rfl T.g_days_above T.n_days_above.kp T.b_days_above .nil pass0 (pa_cons (pv 5) (pa_cons (pv 3) pa_nil)))) (pg_name (i := 7) sc_tell_next.nd rfl (Or.inl rfl)) (pss_one (ps_if (pt_cmpR (op_neD (hr.units)) (pe_call G_find_text (hr.mono (by decide)) rfl T.g_find_text T.n_find_text.kp T.b_find_text .nil pass0 (pa_cons (pe_meth (pv 0) T.cl_Laws T.m_Laws_sections_by G_Laws_sections_by (hr.mono (by decide)) T.b_Laws_sections_by .nil pass0 (pa_cons (pv 1) (pa_cons (pv 5) (pa_cons (pv 7) pa_nil)))) (pa_cons (pv 2) pa_nil))) (pv 6) (nomark _)) (pss_one (ps_ret (pe_lst (pa_cons (pe_glob rfl T.g_FOUND.choose_spec ⟨_, rfl⟩) (pa_cons (pv 7) pa_nil))))) pss_nil)))
    (pss_one (ps_ret (pe_lst (pa_cons (pe_glob rfl T.g_NONE_LEFT.choose_spec ⟨_, rfl⟩) pa_nil))))))))
def t_tell_read (K : PySem.W.Frag) (A : Ad) (sp_Laws_sections_of sp_find_section sp_is_askable sp_is_label : Sp) : TS :=
  (tSeq (tIfS (tOr (tNot (tB (tCall sp_is_askable [] E0 (tCons (tVar 1) (tCons (tVar 3) (tCons (tVar 4) tNil)))))) (tNot (tB (tCall sp_is_label [] E0 (tCons (tVar 2) tNil))))) (tRet (tLst (tCons (tC (.int (-1))) tNil))) tNext)
    (tSeq (tAsg (tCall sp_find_section [] E0 (tCons (tMeth A.c_Laws "sections_of" sp_Laws_sections_of [] E0 (tVar 0) (tCons (tVar 1) (tCons (tVar 3) (tCons (tVar 4) tNil)))) (tCons (tVar 2) tNil))) (gName 5))
    (tSeq (tIfS (tB (tIsN (tVar 5))) (tRet (tLst (tCons (tC (.int (-2))) tNil))) tNext)
    (tRet (tOp rCat (tLst (tCons (tC (.int (0))) tNil)) (tFld K (tVar 5) "text"))))))
theorem ok_tell_read (T : Txt K mg A) {sp_Laws_sections_of : Sp} (G_Laws_sections_of : FnOk P w K mg base CX0 10 A.f_Laws_sections_of A.d_Laws_sections_of ["self", "law", "on", "known"] sp_Laws_sections_of) {sp_find_section : Sp} (G_find_section : FnOk P w K mg base CX0 2 A.f_find_section A.d_find_section ["sections", "label"] sp_find_section) {sp_is_askable : Sp} (G_is_askable : FnOk P w K mg base CX0 2 A.f_is_askable A.d_is_askable ["law", "on", "known"] sp_is_askable) {sp_is_label : Sp} (G_is_label : FnOk P w K mg base CX0 3 A.f_is_label A.d_is_label ["row"] sp_is_label) {sp : Sp} (len : ∀ vs H Q E, sp vs H Q E → vs.length = 5)
    (pure : ∀ vs H Q E, sp vs H Q E → t_tell_read K A sp_Laws_sections_of sp_find_section sp_is_askable sp_is_label { nx := fun _ H' => Q .non H', rt := Q } (start ["laws", "law", "label", "on", "known", "section"] vs) H) :
    FnOk P w K mg base CX0 11 A.f_tell_read A.d_tell_read ["laws", "law", "label", "on", "known"] sp := by
  refine T.n_tell_read.ok sc_tell_read len (fun cdv A' outer s H vs Q E hr h => ⟨t_tell_read K A sp_Laws_sections_of sp_find_section sp_is_askable sp_is_label, ?_, pure vs H Q E h⟩)
  exact (pss_cons (ps_if (PW.pt (pw_or (pt_not (pt_val (pe_call G_is_askable (hr.mono (by decide)) rfl T.g_is_askable T.n_is_askable.kp T.b_is_askable .nil pass0 (pa_cons (pv 1) (pa_cons (pv 3) (pa_cons (pv 4) pa_nil)))))) (pw_or1 (pt_not (pt_val (pe_call G_is_label (hr.mono (by decide)) rfl T.g_is_label T.n_is_label.kp T.b_is_label .nil pass0 (pa_cons (pv 2) pa_nil))))))) (pss_one (ps_ret (pe_lst (pa_cons (pe_glob rfl T.g_WRONG.choose_spec ⟨_, rfl⟩) pa_nil)))) pss_nil)
    (pss_cons (ps_set (i := 5) sc_tell_read.nd rfl (Or.inl rfl) (pe_call G_find_section (hr.mono (by decide)) rfl T.g_find_section T.n_find_section.kp T.b_find_section .nil pass0 (pa_cons (pe_meth (pv 0) T.cl_Laws T.m_Laws_sections_of G_Laws_sections_of (hr.mono (by decide)) T.b_Laws_sections_of .nil pass0 (pa_cons (pv 1) (pa_cons (pv 3) (pa_cons (pv 4) pa_nil)))) (pa_cons (pv 2) pa_nil))))
    (pss_cons (ps_if (pt_cmp (pc_isN (pv 5))) (pss_one (ps_ret (pe_lst (pa_cons (pe_glob rfl T.g_NO_SECTION.choose_spec ⟨_, rfl⟩) pa_nil)))) pss_nil)
    (pss_one (ps_ret (pe_op op_cat (pe_lst (pa_cons (pe_glob rfl T.g_TOLD.choose_spec ⟨_, rfl⟩) pa_nil)) (pe_fld (pv 5) rfl)))))))
def t_tell_labels (K : PySem.W.Frag) (A : Ad) (sp_Laws_sections_of sp_is_askable sp_with_size : Sp) : TS :=
  (tSeq (tIfS (tNot (tB (tCall sp_is_askable [] E0 (tCons (tVar 1) (tCons (tVar 2) (tCons (tVar 3) tNil)))))) (tRet (tLst (tCons (tC (.int (-1))) tNil))) tNext)
    (tSeq (tAsg (tMeth A.c_Laws "sections_of" sp_Laws_sections_of [] E0 (tVar 0) (tCons (tVar 1) (tCons (tVar 2) (tCons (tVar 3) tNil)))) (gName 4))
    (tSeq (tAsg (tLst (tCons (tC (.int (0))) (tCons (tCB (oLen K) (tCons (tVar 4) tNil)) tNil))) (gName 5))
    (tSeq (tFor (iList K (tVar 4)) (gName 6) (tDrop (tBM K "list" rExtend (tVar 5) (tCons (tCall sp_with_size [] E0 (tCons (tFld K (tVar 6) "label") tNil)) tNil))))
    (tRet (tVar 5))))))
theorem ok_tell_labels (T : Txt K mg A) {sp_Laws_sections_of : Sp} (G_Laws_sections_of : FnOk P w K mg base CX0 10 A.f_Laws_sections_of A.d_Laws_sections_of ["self", "law", "on", "known"] sp_Laws_sections_of) {sp_is_askable : Sp} (G_is_askable : FnOk P w K mg base CX0 2 A.f_is_askable A.d_is_askable ["law", "on", "known"] sp_is_askable) {sp_with_size : Sp} (G_with_size : FnOk P w K mg base CX0 1 A.f_with_size A.d_with_size ["row"] sp_with_size) {sp : Sp} (len : ∀ vs H Q E, sp vs H Q E → vs.length = 4)
    (pure : ∀ vs H Q E, sp vs H Q E → t_tell_labels K A sp_Laws_sections_of sp_is_askable sp_with_size { nx := fun _ H' => Q .non H', rt := Q } (start ["laws", "law", "on", "known", "sections", "told", "section"] vs) H) :
    FnOk P w K mg base CX0 11 A.f_tell_labels A.d_tell_labels ["laws", "law", "on", "known"] sp := by
  refine T.n_tell_labels.ok sc_tell_labels len (fun cdv A' outer s H vs Q E hr h => ⟨t_tell_labels K A sp_Laws_sections_of sp_is_askable sp_with_size, ?_, pure vs H Q E h⟩)
  exact (pss_cons (ps_if (pt_not (pt_val (pe_call G_is_askable (hr.mono (by decide)) rfl T.g_is_askable T.n_is_askable.kp T.b_is_askable .nil pass0 (pa_cons (pv 1) (pa_cons (pv 2) (pa_cons (pv 3) pa_nil)))))) (pss_one (ps_ret (pe_lst (pa_cons (pe_glob rfl T.g_WRONG.choose_spec ⟨_, rfl⟩) pa_nil)))) pss_nil)
    (pss_cons (ps_set (i := 4) sc_tell_labels.nd rfl (Or.inl rfl) (pe_meth (pv 0) T.cl_Laws T.m_Laws_sections_of G_Laws_sections_of (hr.mono (by decide)) T.b_Laws_sections_of .nil pass0 (pa_cons (pv 1) (pa_cons (pv 2) (pa_cons (pv 3) pa_nil)))))
    (pss_cons (ps_set (i := 5) sc_tell_labels.nd rfl (Or.inl rfl) (pe_lst (pa_cons (pe_glob rfl T.g_TOLD.choose_spec ⟨_, rfl⟩) (pa_cons (pe_callB call_len_seq (by rfl) T.z_len PySem.boot_len (pa_cons (pv 4) pa_nil)) pa_nil))))
    (pss_cons (ps_for PassesOwn.never rfl (pi_list (pv 4)) (pg_name (i := 6) sc_tell_labels.nd rfl (Or.inl rfl)) (pss_one (ps_expr (pe_bm PySem.F.plainAttrs_list PySem.F.slot_list_extend PySem.F.type_list_extend mt_extend (pv 5) (pa_cons (pe_call G_with_size (hr.mono (by decide)) rfl T.g_with_size T.n_with_size.kp T.b_with_size .nil pass0 (pa_cons (pe_fld (pv 6) rfl) pa_nil)) pa_nil)))))
    (pss_one (ps_ret (pv 5)))))))
def t_tell_origin (K : PySem.W.Frag) (A : Ad) (sp_Laws_sections_of sp_find_section sp_is_askable sp_is_label sp_rows_of : Sp) : TS :=
  (tSeq (tIfS (tOr (tNot (tB (tCall sp_is_askable [] E0 (tCons (tVar 1) (tCons (tVar 3) (tCons (tVar 4) tNil)))))) (tNot (tB (tCall sp_is_label [] E0 (tCons (tVar 2) tNil))))) (tRet (tLst (tCons (tC (.int (-1))) tNil))) tNext)
    (tSeq (tAsg (tCall sp_find_section [] E0 (tCons (tMeth A.c_Laws "sections_of" sp_Laws_sections_of [] E0 (tVar 0) (tCons (tVar 1) (tCons (tVar 3) (tCons (tVar 4) tNil)))) (tCons (tVar 2) tNil))) (gName 5))
    (tSeq (tIfS (tB (tIsN (tVar 5))) (tRet (tLst (tCons (tC (.int (-2))) tNil))) tNext)
    (tRet (tOp rCat (tLst (tCons (tC (.int (0))) tNil)) (tCall sp_rows_of [] E0 (tCons (tFld K (tVar 5) "owners") tNil)))))))
theorem ok_tell_origin (T : Txt K mg A) {sp_Laws_sections_of : Sp} (G_Laws_sections_of : FnOk P w K mg base CX0 10 A.f_Laws_sections_of A.d_Laws_sections_of ["self", "law", "on", "known"] sp_Laws_sections_of) {sp_find_section : Sp} (G_find_section : FnOk P w K mg base CX0 2 A.f_find_section A.d_find_section ["sections", "label"] sp_find_section) {sp_is_askable : Sp} (G_is_askable : FnOk P w K mg base CX0 2 A.f_is_askable A.d_is_askable ["law", "on", "known"] sp_is_askable) {sp_is_label : Sp} (G_is_label : FnOk P w K mg base CX0 3 A.f_is_label A.d_is_label ["row"] sp_is_label) {sp_rows_of : Sp} (G_rows_of : FnOk P w K mg base CX0 1 A.f_rows_of A.d_rows_of ["owners"] sp_rows_of) {sp : Sp} (len : ∀ vs H Q E, sp vs H Q E → vs.length = 5)
    (pure : ∀ vs H Q E, sp vs H Q E → t_tell_origin K A sp_Laws_sections_of sp_find_section sp_is_askable sp_is_label sp_rows_of { nx := fun _ H' => Q .non H', rt := Q } (start ["laws", "law", "label", "on", "known", "section"] vs) H) :
    FnOk P w K mg base CX0 11 A.f_tell_origin A.d_tell_origin ["laws", "law", "label", "on", "known"] sp := by
  refine T.n_tell_origin.ok sc_tell_origin len (fun cdv A' outer s H vs Q E hr h => ⟨t_tell_origin K A sp_Laws_sections_of sp_find_section sp_is_askable sp_is_label sp_rows_of, ?_, pure vs H Q E h⟩)
  exact (pss_cons (ps_if (PW.pt (pw_or (pt_not (pt_val (pe_call G_is_askable (hr.mono (by decide)) rfl T.g_is_askable T.n_is_askable.kp T.b_is_askable .nil pass0 (pa_cons (pv 1) (pa_cons (pv 3) (pa_cons (pv 4) pa_nil)))))) (pw_or1 (pt_not (pt_val (pe_call G_is_label (hr.mono (by decide)) rfl T.g_is_label T.n_is_label.kp T.b_is_label .nil pass0 (pa_cons (pv 2) pa_nil))))))) (pss_one (ps_ret (pe_lst (pa_cons (pe_glob rfl T.g_WRONG.choose_spec ⟨_, rfl⟩) pa_nil)))) pss_nil)
    (pss_cons (ps_set (i := 5) sc_tell_origin.nd rfl (Or.inl rfl) (pe_call G_find_section (hr.mono (by decide)) rfl T.g_find_section T.n_find_section.kp T.b_find_section .nil pass0 (pa_cons (pe_meth (pv 0) T.cl_Laws T.m_Laws_sections_of G_Laws_sections_of (hr.mono (by decide)) T.b_Laws_sections_of .nil pass0 (pa_cons (pv 1) (pa_cons (pv 3) (pa_cons (pv 4) pa_nil)))) (pa_cons (pv 2) pa_nil))))
    (pss_cons (ps_if (pt_cmp (pc_isN (pv 5))) (pss_one (ps_ret (pe_lst (pa_cons (pe_glob rfl T.g_NO_SECTION.choose_spec ⟨_, rfl⟩) pa_nil)))) pss_nil)
    (pss_one (ps_ret (pe_op op_cat (pe_lst (pa_cons (pe_glob rfl T.g_TOLD.choose_spec ⟨_, rfl⟩) pa_nil)) (pe_call G_rows_of (hr.mono (by decide)) rfl T.g_rows_of T.n_rows_of.kp T.b_rows_of .nil pass0 (pa_cons (pe_fld (pv 5) rfl) pa_nil))))))))
def t_tell_broken (K : PySem.W.Frag) (A : Ad) (sp_Laws_sections_of sp_is_askable sp_references_in sp_with_size : Sp) : TS :=
  (tSeq (tIfS (tNot (tB (tCall sp_is_askable [] E0 (tCons (tVar 1) (tCons (tVar 2) (tCons (tVar 3) tNil)))))) (tRet (tLst (tCons (tC (.int (-1))) tNil))) tNext)
    (tSeq (tAsg (tMeth A.c_Laws "sections_of" sp_Laws_sections_of [] E0 (tVar 0) (tCons (tVar 1) (tCons (tVar 2) (tCons (tVar 3) tNil)))) (gName 5))
    (tSeq (tAsg (tLc (iList K (tVar 5)) (gName 8) tYes (tFld K (tVar 8) "label") [8]) (gName 6))
    (tSeq (tAsg (tC (.int 0)) (gName 7))
    (tSeq (tFor (iList K (tVar 5)) (gName 8) (tFor (iList K (tCall sp_references_in [] E0 (tCons (tFld K (tVar 8) "text") tNil))) (gName 9) (tIfS (tTest (tOp (rNotInD K) (tVar 9) (tVar 6))) (tSeq (tIfS (tTest (tOp rEq (tVar 7) (tVar 4))) (tRet (tOp rCat (tOp rCat (tLst (tCons (tC (.int (1))) tNil)) (tCall sp_with_size [] E0 (tCons (tFld K (tVar 8) "label") tNil))) (tCall sp_with_size [] E0 (tCons (tVar 9) tNil)))) tNext)
                (tAsg (tOp oAdd (tVar 7) (tC (.int 1))) (gName 7))) tNext)))
    (tRet (tLst (tCons (tC (.int (0))) tNil))))))))
theorem ok_tell_broken (T : Txt K mg A) {sp_Laws_sections_of : Sp} (G_Laws_sections_of : FnOk P w K mg base CX0 10 A.f_Laws_sections_of A.d_Laws_sections_of ["self", "law", "on", "known"] sp_Laws_sections_of) {sp_is_askable : Sp} (G_is_askable : FnOk P w K mg base CX0 2 A.f_is_askable A.d_is_askable ["law", "on", "known"] sp_is_askable) {sp_references_in : Sp} (G_references_in : FnOk P w K mg base CX0 4 A.f_references_in A.d_references_in ["text"] sp_references_in) {sp_with_size : Sp} (G_with_size : FnOk P w K mg base CX0 1 A.f_with_size A.d_with_size ["row"] sp_with_size) {sp : Sp} (len : ∀ vs H Q E, sp vs H Q E → vs.length = 5)
    (pure : ∀ vs H Q E, sp vs H Q E → t_tell_broken K A sp_Laws_sections_of sp_is_askable sp_references_in sp_with_size { nx := fun _ H' => Q .non H', rt := Q } (start ["laws", "law", "on", "known", "k", "sections", "there", "passed", "section", "label"] vs) H) :
    FnOk P w K mg base CX0 11 A.f_tell_broken A.d_tell_broken ["laws", "law", "on", "known", "k"] sp := by
  refine T.n_tell_broken.ok sc_tell_broken len (fun cdv A' outer s H vs Q E hr h => ⟨t_tell_broken K A sp_Laws_sections_of sp_is_askable sp_references_in sp_with_size, ?_, pure vs H Q E h⟩)
  exact (pss_cons (ps_if (pt_not (pt_val (pe_call G_is_askable (hr.mono (by decide)) rfl T.g_is_askable T.n_is_askable.kp T.b_is_askable .nil pass0 (pa_cons (pv 1) (pa_cons (pv 2) (pa_cons (pv 3) pa_nil)))))) (pss_one (ps_ret (pe_lst (pa_cons (pe_glob rfl T.g_WRONG.choose_spec ⟨_, rfl⟩) pa_nil)))) pss_nil)
    (pss_cons (ps_set (i := 5) sc_tell_broken.nd rfl (Or.inl rfl) (pe_meth (pv 0) T.cl_Laws T.m_Laws_sections_of G_Laws_sections_of (hr.mono (by decide)) T.b_Laws_sections_of .nil pass0 (pa_cons (pv 1) (pa_cons (pv 2) (pa_cons (pv 3) pa_nil)))))
    (pss_cons (ps_setLc (i := 6) (own := [("section", 8)]) (g := gName 8) (by rfl) sc_tell_broken.nd rfl rfl (sw_true rfl rfl rfl (by decide +kernel)) (pi_list (pv 5)) (blkOk_by (own := [("section", 8)]) (N := ["laws", "law", "on", "known", "k", "sections", "there", "passed", "section", "label"]) (sc := defScope s_tell_broken) (by decide +kernel)) (fun _ _ _ _ _ => pg_name (i := 8) sc_tell_broken.nd rfl (Or.inl rfl)) (fun _ _ _ _ _ => pts_nil) (fun _ _ _ _ _ => (pe_fld (pv 8) rfl)))
    (pss_cons (ps_set (i := 7) sc_tell_broken.nd rfl (Or.inl rfl) pe_int)
    (pss_cons (ps_for PassesOwn.never rfl (pi_list (pv 5)) (pg_name (i := 8) sc_tell_broken.nd rfl (Or.inl rfl)) (pss_one (ps_for PassesOwn.never rfl (pi_list (pe_call G_references_in (hr.mono (by decide)) rfl T.g_references_in T.n_references_in.kp T.b_references_in .nil pass0 (pa_cons (pe_fld (pv 8) rfl) pa_nil))) (pg_name (i := 9) sc_tell_broken.nd rfl (Or.inl rfl)) (pss_one (ps_if (pt_cmpR (op_notInD (hu65 hr)) (pv 9) (pv 6) rfl) (pss_cons (ps_if (pt_cmpR op_eq (pv 7) (pv 4) (nomark _)) (pss_one (ps_ret (pe_op op_cat (pe_op op_cat (pe_lst (pa_cons (pe_glob rfl T.g_FOUND.choose_spec ⟨_, rfl⟩) pa_nil)) (pe_call G_with_size (hr.mono (by decide)) rfl T.g_with_size T.n_with_size.kp T.b_with_size .nil pass0 (pa_cons (pe_fld (pv 8) rfl) pa_nil))) (pe_call G_with_size (hr.mono (by decide)) rfl T.g_with_size T.n_with_size.kp T.b_with_size .nil pass0 (pa_cons (pv 9) pa_nil))))) pss_nil)
                (pss_one (ps_set (i := 7) sc_tell_broken.nd rfl (Or.inl rfl) (pe_op op_add (pv 7) pe_int)))) pss_nil)))))
    (pss_one (ps_ret (pe_lst (pa_cons (pe_glob rfl T.g_NONE_LEFT.choose_spec ⟨_, rfl⟩) pa_nil)))))))))
def t_answer_of_law (K : PySem.W.Frag) (A : Ad) (sp_Reader_next_number sp_Reader_next_row sp_tell_broken sp_tell_labels sp_tell_next sp_tell_origin sp_tell_read : Sp) : TS :=
  (tSeq (tAsg (tMeth A.c_Reader "next_number" sp_Reader_next_number [] E0 (tVar 2) tNil) (gName 3))
    (tSeq (tAsg (tMeth A.c_Reader "next_number" sp_Reader_next_number [] E0 (tVar 2) tNil) (gName 4))
    (tSeq (tAsg (tMeth A.c_Reader "next_number" sp_Reader_next_number [] E0 (tVar 2) tNil) (gName 5))
    (tSeq (tIfS (tTest (tOp rEq (tVar 1) (tC (.int (9))))) (tRet (tCall sp_tell_labels [] E0 (tCons (tVar 0) (tCons (tVar 3) (tCons (tVar 4) (tCons (tVar 5) tNil)))))) tNext)
    (tSeq (tIfS (tTest (tOp rEq (tVar 1) (tC (.int (12))))) (tRet (tCall sp_tell_broken [] E0 (tCons (tVar 0) (tCons (tVar 3) (tCons (tVar 4) (tCons (tVar 5) (tCons (tMeth A.c_Reader "next_number" sp_Reader_next_number [] E0 (tVar 2) tNil) tNil))))))) tNext)
    (tSeq (tAsg (tMeth A.c_Reader "next_row" sp_Reader_next_row [] E0 (tVar 2) tNil) (gName 6))
    (tSeq (tIfS (tTest (tOp rEq (tVar 1) (tC (.int (8))))) (tRet (tCall sp_tell_read [] E0 (tCons (tVar 0) (tCons (tVar 3) (tCons (tVar 6) (tCons (tVar 4) (tCons (tVar 5) tNil))))))) tNext)
    (tSeq (tIfS (tTest (tOp rEq (tVar 1) (tC (.int (10))))) (tRet (tCall sp_tell_origin [] E0 (tCons (tVar 0) (tCons (tVar 3) (tCons (tVar 6) (tCons (tVar 4) (tCons (tVar 5) tNil))))))) tNext)
    (tRet (tCall sp_tell_next [] E0 (tCons (tVar 0) (tCons (tVar 3) (tCons (tVar 6) (tCons (tVar 4) (tCons (tVar 5) tNil)))))))))))))))
theorem ok_answer_of_law (T : Txt K mg A) {sp_Reader_next_number : Sp} (G_Reader_next_number : FnOk P w K mg base CX0 1 A.f_Reader_next_number A.d_Reader_next_number ["self"] sp_Reader_next_number) {sp_Reader_next_row : Sp} (G_Reader_next_row : FnOk P w K mg base CX0 2 A.f_Reader_next_row A.d_Reader_next_row ["self"] sp_Reader_next_row) {sp_tell_broken : Sp} (G_tell_broken : FnOk P w K mg base CX0 11 A.f_tell_broken A.d_tell_broken ["laws", "law", "on", "known", "k"] sp_tell_broken) {sp_tell_labels : Sp} (G_tell_labels : FnOk P w K mg base CX0 11 A.f_tell_labels A.d_tell_labels ["laws", "law", "on", "known"] sp_tell_labels) {sp_tell_next : Sp} (G_tell_next : FnOk P w K mg base CX0 10 A.f_tell_next A.d_tell_next ["laws", "law", "label", "on", "known"] sp_tell_next) {sp_tell_origin : Sp} (G_tell_origin : FnOk P w K mg base CX0 11 A.f_tell_origin A.d_tell_origin ["laws", "law", "label", "on", "known"] sp_tell_origin) {sp_tell_read : Sp} (G_tell_read : FnOk P w K mg base CX0 11 A.f_tell_read A.d_tell_read ["laws", "law", "label", "on", "known"] sp_tell_read) {sp : Sp} (len : ∀ vs H Q E, sp vs H Q E → vs.length = 3)
    (pure : ∀ vs H Q E, sp vs H Q E → t_answer_of_law K A sp_Reader_next_number sp_Reader_next_row sp_tell_broken sp_tell_labels sp_tell_next sp_tell_origin sp_tell_read { nx := fun _ H' => Q .non H', rt := Q } (start ["laws", "call", "reader", "law", "on", "known", "label"] vs) H) :
    FnOk P w K mg base CX0 12 A.f_answer_of_law A.d_answer_of_law ["laws", "call", "reader"] sp := by
  refine T.n_answer_of_law.ok sc_answer_of_law len (fun cdv A' outer s H vs Q E hr h => ⟨t_answer_of_law K A sp_Reader_next_number sp_Reader_next_row sp_tell_broken sp_tell_labels sp_tell_next sp_tell_origin sp_tell_read, ?_, pure vs H Q E h⟩)
  exact (pss_cons (ps_set (i := 3) sc_answer_of_law.nd rfl (Or.inl rfl) (pe_meth0 (pv 2) T.cl_Reader T.m_Reader_next_number G_Reader_next_number (hr.mono (by decide)) T.b_Reader_next_number .nil pass0))
    (pss_cons (ps_set (i := 4) sc_answer_of_law.nd rfl (Or.inl rfl) (pe_meth0 (pv 2) T.cl_Reader T.m_Reader_next_number G_Reader_next_number (hr.mono (by decide)) T.b_Reader_next_number .nil pass0))
    (pss_cons (ps_set (i := 5) sc_answer_of_law.nd rfl (Or.inl rfl) (pe_meth0 (pv 2) T.cl_Reader T.m_Reader_next_number G_Reader_next_number (hr.mono (by decide)) T.b_Reader_next_number .nil pass0))
    (pss_cons (ps_if (pt_cmpR op_eq (pv 1) (pe_glob rfl T.g_LABELS.choose_spec ⟨_, rfl⟩) (nomark _)) (pss_one (ps_ret (pe_call G_tell_labels (hr.mono (by decide)) rfl T.g_tell_labels T.n_tell_labels.kp T.b_tell_labels .nil pass0 (pa_cons (pv 0) (pa_cons (pv 3) (pa_cons (pv 4) (pa_cons (pv 5) pa_nil))))))) pss_nil)
    (pss_cons (ps_if (pt_cmpR op_eq (pv 1) (pe_glob rfl T.g_BROKEN.choose_spec ⟨_, rfl⟩) (nomark _)) (pss_one (ps_ret (pe_call G_tell_broken (hr.mono (by decide)) rfl T.g_tell_broken T.n_tell_broken.kp T.b_tell_broken .nil pass0 (pa_cons (pv 0) (pa_cons (pv 3) (pa_cons (pv 4) (pa_cons (pv 5) (pa_cons (pe_meth0 (pv 2) T.cl_Reader T.m_Reader_next_number G_Reader_next_number (hr.mono (by decide)) T.b_Reader_next_number .nil pass0) pa_nil)))))))) pss_nil)
    (pss_cons (ps_set (i := 6) sc_answer_of_law.nd rfl (Or.inl rfl) (pe_meth0 (pv 2) T.cl_Reader T.m_Reader_next_row G_Reader_next_row (hr.mono (by decide)) T.b_Reader_next_row .nil pass0))
    (pss_cons (ps_if (pt_cmpR op_eq (pv 1) (pe_glob rfl T.g_READ.choose_spec ⟨_, rfl⟩) (nomark _)) (pss_one (ps_ret (pe_call G_tell_read (hr.mono (by decide)) rfl T.g_tell_read T.n_tell_read.kp T.b_tell_read .nil pass0 (pa_cons (pv 0) (pa_cons (pv 3) (pa_cons (pv 6) (pa_cons (pv 4) (pa_cons (pv 5) pa_nil)))))))) pss_nil)
    (pss_cons (ps_if (pt_cmpR op_eq (pv 1) (pe_glob rfl T.g_ORIGIN.choose_spec ⟨_, rfl⟩) (nomark _)) (pss_one (ps_ret (pe_call G_tell_origin (hr.mono (by decide)) rfl T.g_tell_origin T.n_tell_origin.kp T.b_tell_origin .nil pass0 (pa_cons (pv 0) (pa_cons (pv 3) (pa_cons (pv 6) (pa_cons (pv 4) (pa_cons (pv 5) pa_nil)))))))) pss_nil)
    (pss_one (ps_ret (pe_call G_tell_next (hr.mono (by decide)) rfl T.g_tell_next T.n_tell_next.kp T.b_tell_next .nil pass0 (pa_cons (pv 0) (pa_cons (pv 3) (pa_cons (pv 6) (pa_cons (pv 4) (pa_cons (pv 5) pa_nil))))))))))))))))
def t_answer_call (K : PySem.W.Frag) (A : Ad) (sp_Laws_begin sp_Reader_next_number sp_Record_add_act sp_Record_add_command sp_Record_add_void sp_answer_of_law sp_read_command sp_tell_idle : Sp) : TS :=
  (tSeq (tAsg (tMeth A.c_Reader "next_number" sp_Reader_next_number [] E0 (tVar 1) tNil) (gName 2))
    (tSeq (tIfS (tTest (tOp rEq (tVar 2) (tC (.int (0))))) (tSeq (tDrop (tMeth A.c_Laws "begin" sp_Laws_begin [] E0 (tVar 0) tNil))
        (tRet (tLst (tCons (tC (.int (0))) tNil)))) tNext)
    (tSeq (tIfS (tTest (tOp rEq (tVar 2) (tC (.int (1))))) (tRet (tLst (tCons (tMeth A.c_Record "add_act" sp_Record_add_act [] E0 (tFld K (tVar 0) "record") (tCons (tMeth A.c_Reader "next_number" sp_Reader_next_number [] E0 (tVar 1) tNil) tNil)) tNil))) tNext)
    (tSeq (tIfS (tTest (tOp rEq (tVar 2) (tC (.int (7))))) (tRet (tLst (tCons (tMeth A.c_Record "add_void" sp_Record_add_void [] E0 (tFld K (tVar 0) "record") (tCons (tMeth A.c_Reader "next_number" sp_Reader_next_number [] E0 (tVar 1) tNil) tNil)) tNil))) tNext)
    (tSeq (tIfS (tTest (tOp (rIn K false) (tVar 2) (tTup (tCons (tC (.int (2))) (tCons (tC (.int (3))) (tCons (tC (.int (4))) (tCons (tC (.int (5))) (tCons (tC (.int (6))) tNil)))))))) (tRet (tLst (tCons (tMeth A.c_Record "add_command" sp_Record_add_command [] E0 (tFld K (tVar 0) "record") (tCons (tCall sp_read_command [] E0 (tCons (tVar 2) (tCons (tVar 1) tNil))) tNil)) tNil))) tNext)
    (tSeq (tIfS (tTest (tOp rEq (tVar 2) (tC (.int (11))))) (tSeq (tAsg (tMeth A.c_Reader "next_number" sp_Reader_next_number [] E0 (tVar 1) tNil) (gName 3))
        (tSeq (tAsg (tMeth A.c_Reader "next_number" sp_Reader_next_number [] E0 (tVar 1) tNil) (gName 4))
        (tRet (tCall sp_tell_idle [] E0 (tCons (tVar 0) (tCons (tVar 3) (tCons (tVar 4) tNil))))))) tNext)
    (tRet (tCall sp_answer_of_law [] E0 (tCons (tVar 0) (tCons (tVar 2) (tCons (tVar 1) tNil)))))))))))
theorem ok_answer_call (T : Txt K mg A) {sp_Laws_begin : Sp} (G_Laws_begin : FnOk P w K mg base CX0 3 A.f_Laws_begin A.d_Laws_begin ["self"] sp_Laws_begin) {sp_Reader_next_number : Sp} (G_Reader_next_number : FnOk P w K mg base CX0 1 A.f_Reader_next_number A.d_Reader_next_number ["self"] sp_Reader_next_number) {sp_Record_add_act : Sp} (G_Record_add_act : FnOk P w K mg base CX0 3 A.f_Record_add_act A.d_Record_add_act ["self", "day"] sp_Record_add_act) {sp_Record_add_command : Sp} (G_Record_add_command : FnOk P w K mg base CX0 6 A.f_Record_add_command A.d_Record_add_command ["self", "command"] sp_Record_add_command) {sp_Record_add_void : Sp} (G_Record_add_void : FnOk P w K mg base CX0 3 A.f_Record_add_void A.d_Record_add_void ["self", "target"] sp_Record_add_void) {sp_answer_of_law : Sp} (G_answer_of_law : FnOk P w K mg base CX0 12 A.f_answer_of_law A.d_answer_of_law ["laws", "call", "reader"] sp_answer_of_law) {sp_read_command : Sp} (G_read_command : FnOk P w K mg base CX0 3 A.f_read_command A.d_read_command ["kind", "reader"] sp_read_command) {sp_tell_idle : Sp} (G_tell_idle : FnOk P w K mg base CX0 10 A.f_tell_idle A.d_tell_idle ["laws", "on", "known"] sp_tell_idle) {sp : Sp} (len : ∀ vs H Q E, sp vs H Q E → vs.length = 2)
    (pure : ∀ vs H Q E, sp vs H Q E → t_answer_call K A sp_Laws_begin sp_Reader_next_number sp_Record_add_act sp_Record_add_command sp_Record_add_void sp_answer_of_law sp_read_command sp_tell_idle { nx := fun _ H' => Q .non H', rt := Q } (start ["laws", "reader", "call", "on", "known"] vs) H) :
    FnOk P w K mg base CX0 13 A.f_answer_call A.d_answer_call ["laws", "reader"] sp := by
  refine T.n_answer_call.ok sc_answer_call len (fun cdv A' outer s H vs Q E hr h => ⟨t_answer_call K A sp_Laws_begin sp_Reader_next_number sp_Record_add_act sp_Record_add_command sp_Record_add_void sp_answer_of_law sp_read_command sp_tell_idle, ?_, pure vs H Q E h⟩)
  exact (pss_cons (ps_set (i := 2) sc_answer_call.nd rfl (Or.inl rfl) (pe_meth0 (pv 1) T.cl_Reader T.m_Reader_next_number G_Reader_next_number (hr.mono (by decide)) T.b_Reader_next_number .nil pass0))
    (pss_cons (ps_if (pt_cmpR op_eq (pv 2) (pe_glob rfl T.g_BEGIN.choose_spec ⟨_, rfl⟩) (nomark _)) (pss_cons (ps_expr (pe_meth0 (pv 0) T.cl_Laws T.m_Laws_begin G_Laws_begin (hr.mono (by decide)) T.b_Laws_begin .nil pass0))
        (pss_one (ps_ret (pe_lst (pa_cons (pe_glob rfl T.g_DONE.choose_spec ⟨_, rfl⟩) pa_nil))))) pss_nil)
    (pss_cons (ps_if (pt_cmpR op_eq (pv 2) (pe_glob rfl T.g_ACT.choose_spec ⟨_, rfl⟩) (nomark _)) (pss_one (ps_ret (pe_lst (pa_cons (pe_meth (pe_fld (pv 0) rfl) T.cl_Record T.m_Record_add_act G_Record_add_act (hr.mono (by decide)) T.b_Record_add_act .nil pass0 (pa_cons (pe_meth0 (pv 1) T.cl_Reader T.m_Reader_next_number G_Reader_next_number (hr.mono (by decide)) T.b_Reader_next_number .nil pass0) pa_nil)) pa_nil)))) pss_nil)
    (pss_cons (ps_if (pt_cmpR op_eq (pv 2) (pe_glob rfl T.g_VOID.choose_spec ⟨_, rfl⟩) (nomark _)) (pss_one (ps_ret (pe_lst (pa_cons (pe_meth (pe_fld (pv 0) rfl) T.cl_Record T.m_Record_add_void G_Record_add_void (hr.mono (by decide)) T.b_Record_add_void .nil pass0 (pa_cons (pe_meth0 (pv 1) T.cl_Reader T.m_Reader_next_number G_Reader_next_number (hr.mono (by decide)) T.b_Reader_next_number .nil pass0) pa_nil)) pa_nil)))) pss_nil)
    (pss_cons (ps_if (pt_cmpR op_in_seq (pv 2) (pe_tup (pa_cons (pe_glob rfl T.g_PUT.choose_spec ⟨_, rfl⟩) (pa_cons (pe_glob rfl T.g_TAKE.choose_spec ⟨_, rfl⟩) (pa_cons (pe_glob rfl T.g_TEXT.choose_spec ⟨_, rfl⟩) (pa_cons (pe_glob rfl T.g_WORD.choose_spec ⟨_, rfl⟩) (pa_cons (pe_glob rfl T.g_NAME.choose_spec ⟨_, rfl⟩) pa_nil)))))) rfl) (pss_one (ps_ret (pe_lst (pa_cons (pe_meth (pe_fld (pv 0) rfl) T.cl_Record T.m_Record_add_command G_Record_add_command (hr.mono (by decide)) T.b_Record_add_command .nil pass0 (pa_cons (pe_call G_read_command (hr.mono (by decide)) rfl T.g_read_command T.n_read_command.kp T.b_read_command .nil pass0 (pa_cons (pv 2) (pa_cons (pv 1) pa_nil))) pa_nil)) pa_nil)))) pss_nil)
    (pss_cons (ps_if (pt_cmpR op_eq (pv 2) (pe_glob rfl T.g_IDLE.choose_spec ⟨_, rfl⟩) (nomark _)) (pss_cons (ps_set (i := 3) sc_answer_call.nd rfl (Or.inl rfl) (pe_meth0 (pv 1) T.cl_Reader T.m_Reader_next_number G_Reader_next_number (hr.mono (by decide)) T.b_Reader_next_number .nil pass0))
        (pss_cons (ps_set (i := 4) sc_answer_call.nd rfl (Or.inl rfl) (pe_meth0 (pv 1) T.cl_Reader T.m_Reader_next_number G_Reader_next_number (hr.mono (by decide)) T.b_Reader_next_number .nil pass0))
        (pss_one (ps_ret (pe_call G_tell_idle (hr.mono (by decide)) rfl T.g_tell_idle T.n_tell_idle.kp T.b_tell_idle .nil pass0 (pa_cons (pv 0) (pa_cons (pv 3) (pa_cons (pv 4) pa_nil)))))))) pss_nil)
    (pss_one (ps_ret (pe_call G_answer_of_law (hr.mono (by decide)) rfl T.g_answer_of_law T.n_answer_of_law.kp T.b_answer_of_law .nil pass0 (pa_cons (pv 0) (pa_cons (pv 2) (pa_cons (pv 1) pa_nil))))))))))))
def t_answers (K : PySem.W.Frag) (A : Ad) (sp_Laws_init sp_Reader_has_more sp_Reader_init sp_answer_call : Sp) : TS :=
  (tSeq (tAsg (tMake A.c_Reader sp_Reader_init [] E0 (tCons (tVar 0) tNil)) (gName 1))
    (tSeq (tAsg (tMake A.c_Laws sp_Laws_init [] E0 tNil) (gName 2))
    (tSeq (tAsg (tLst tNil) (gName 3))
    (tSeq (tWhile (tB (tMeth A.c_Reader "has_more" sp_Reader_has_more [] E0 (tVar 1) tNil)) (tSeq (tAsg (tCall sp_answer_call [] E0 (tCons (tVar 2) (tCons (tVar 1) tNil))) (gName 4))
        (tSeq (tDrop (tBM K "list" rAppend (tVar 3) (tCons (tCB (oLen K) (tCons (tVar 4) tNil)) tNil)))
        (tDrop (tBM K "list" rExtend (tVar 3) (tCons (tVar 4) tNil))))))
    (tRet (tVar 3))))))
theorem ok_answers (T : Txt K mg A) {sp_Laws_init : Sp} (G_Laws_init : FnOk P w K mg base CX0 3 A.f_Laws_init A.d_Laws_init ["self"] sp_Laws_init) {sp_Reader_has_more : Sp} (G_Reader_has_more : FnOk P w K mg base CX0 1 A.f_Reader_has_more A.d_Reader_has_more ["self"] sp_Reader_has_more) {sp_Reader_init : Sp} (G_Reader_init : FnOk P w K mg base CX0 1 A.f_Reader_init A.d_Reader_init ["self", "numbers"] sp_Reader_init) {sp_answer_call : Sp} (G_answer_call : FnOk P w K mg base CX0 13 A.f_answer_call A.d_answer_call ["laws", "reader"] sp_answer_call) {sp : Sp} (len : ∀ vs H Q E, sp vs H Q E → vs.length = 1)
    (pure : ∀ vs H Q E, sp vs H Q E → t_answers K A sp_Laws_init sp_Reader_has_more sp_Reader_init sp_answer_call { nx := fun _ H' => Q .non H', rt := Q } (start ["calls", "reader", "laws", "told", "answer"] vs) H) :
    FnOk P w K mg base CX0 14 A.f_answers A.d_answers ["calls"] sp := by
  refine T.n_answers.ok sc_answers len (fun cdv A' outer s H vs Q E hr h => ⟨t_answers K A sp_Laws_init sp_Reader_has_more sp_Reader_init sp_answer_call, ?_, pure vs H Q E h⟩)
  exact (pss_cons (ps_set (i := 1) sc_answers.nd rfl (Or.inl rfl) (pe_make T.mk_Reader G_Reader_init (hr.mono (by decide)) rfl T.g_Reader T.b_Reader_init .nil pass0 (pa_cons (pv 0) pa_nil)))
    (pss_cons (ps_set (i := 2) sc_answers.nd rfl (Or.inl rfl) (pe_make0 T.mk_Laws G_Laws_init (hr.mono (by decide)) rfl T.g_Laws T.b_Laws_init .nil pass0))
    (pss_cons (ps_set (i := 3) sc_answers.nd rfl (Or.inl rfl) (pe_lst pa_nil))
    (pss_cons (ps_while PassesOwn.never (pt_val (pe_meth0 (pv 1) T.cl_Reader T.m_Reader_has_more G_Reader_has_more (hr.mono (by decide)) T.b_Reader_has_more .nil pass0)) (pss_cons (ps_set (i := 4) sc_answers.nd rfl (Or.inl rfl) (pe_call G_answer_call (hr.mono (by decide)) rfl T.g_answer_call T.n_answer_call.kp T.b_answer_call .nil pass0 (pa_cons (pv 2) (pa_cons (pv 1) pa_nil))))
        (pss_cons (ps_expr (pe_bm PySem.F.plainAttrs_list PySem.F.slot_list_append PySem.F.type_list_append mt_append (pv 3) (pa_cons (pe_callB call_len_seq (by rfl) T.z_len PySem.boot_len (pa_cons (pv 4) pa_nil)) pa_nil)))
        (pss_one (ps_expr (pe_bm PySem.F.plainAttrs_list PySem.F.slot_list_extend PySem.F.type_list_extend mt_extend (pv 3) (pa_cons (pv 4) pa_nil)))))))
    (pss_one (ps_ret (pv 3)))))))
end
end LD

namespace LD
open PySem PySem.Spec PyProof.Rows L2
/-- a proposition whose type names r, so that simp leaves r as it is -/
@[reducible] def KP {α : Sort u} (r : α) : Type := Prop
def asB (x : V) (R : Bool → Prop) : KP R := ∃ c, x = .bl c ∧ R c
def asI (x : V) (R : Int → Prop) : KP R := ∃ c, x = .int c ∧ R c
def asR (x : V) (R : Addr → Prop) : KP R := ∃ c, x = .ref c ∧ R c
def atO {α : Type} (o : Option α) (R : α → Prop) : KP R := ∃ v, o = some v ∧ R v
def slot (σ : L2.St) (i : Nat) (R : V → Prop) : KP (i, R) := ∃ v, σ[i]? = some (some v) ∧ R v
def insO (o : Option HO) (R : Addr → Addr → List (Str × V) → Prop) : KP R := ∃ C dx fs, o = some (.ins C dx fs) ∧ R C dx fs
def lstO (o : Option HO) (R : List V → Prop) : KP R := ∃ xs, o = some (.lst xs) ∧ R xs
def tupO (o : Option HO) (R : List V → Prop) : KP R := ∃ xs, o = some (.tup xs) ∧ R xs
def noF (fs : List (Str × V)) (m : Str) : Prop := fs.lookup m = none
def fldv (fs : List (Str × V)) (f : Str) (R : V → Prop) : KP (f, R) := ∃ v, fs.lookup f = some v ∧ R v
theorem lk_cons {k g : Str} {v : V} {r : List (Str × V)} : List.lookup k ((g, v) :: r) = if k = g then some v else List.lookup k r := by
  by_cases h : k = g
  · subst h; rw [if_pos rfl, List.lookup_cons_self]
  · rw [if_neg h]
    simp only [List.lookup, beq_eq_false_iff_ne.mpr h]
@[simp] theorem noF_nil {m : Str} : noF [] m ↔ True := by simp [noF]
@[simp] theorem noF_cons {m g : Str} {v : V} {r : List (Str × V)} : noF ((g, v) :: r) m ↔ ¬ m = g ∧ noF r m := by
  unfold noF
  rw [lk_cons]
  by_cases h : m = g
  · rw [if_pos h]; simp [h]
  · rw [if_neg h]; simp [h]
@[simp] theorem fldv_cons {f g : Str} {v : V} {r : List (Str × V)} {R : V → Prop} : fldv ((g, v) :: r) f R ↔ if f = g then R v else fldv r f R := by
  unfold fldv
  rw [lk_cons]
  by_cases h : f = g
  · rw [if_pos h, if_pos h]; simp
  · rw [if_neg h, if_neg h]
@[simp] theorem putF_nil {f : Str} {v : V} : putF f v [] = [(f, v)] := rfl
@[simp] theorem putF_cons {f g : Str} {v x : V} {r : List (Str × V)} : putF f v ((g, x) :: r) = if g = f then (g, v) :: r else (g, x) :: putF f v r := rfl
def one (vs : List V) (R : V → Prop) : Prop := ∃ x, vs = [x] ∧ R x
def two (vs : List V) (R : V → V → Prop) : Prop := ∃ x y, vs = [x, y] ∧ R x y
/-! ### heaps, parts of them -/
/-- all but S stays -/
def Kp (S : List Addr) (H H' : Hp) : Prop := ∀ b o, b ∉ S → H b = some o → H' b = some o
/-- without S -/
def wo (H : Hp) (S : List Addr) : Hp := fun b => if b ∈ S then none else H b
theorem wo_in {H : Hp} {S : List Addr} {b : Addr} (h : b ∈ S) : wo H S b = none := if_pos h
theorem wo_out {H : Hp} {S : List Addr} {b : Addr} (h : b ∉ S) : wo H S b = H b := if_neg h
theorem wo_some {H : Hp} {S : List Addr} {b : Addr} {o : HO} (h : wo H S b = some o) : b ∉ S ∧ H b = some o := by
  by_cases e : b ∈ S
  · rw [wo_in e] at h; cases h
  · rw [wo_out e] at h; exact ⟨e, h⟩
theorem Kp.refl {S : List Addr} {H : Hp} : Kp S H H := fun _ _ _ h => h
theorem Kp.trans {S : List Addr} {H H1 H2 : Hp} (a : Kp S H H1) (b : Kp S H1 H2) : Kp S H H2 := fun c o n h => b c o n (a c o n h)
theorem Kp.mono {S S' : List Addr} {H H' : Hp} (a : Kp S H H') (h : ∀ b ∈ S, b ∈ S') : Kp S' H H' := fun c o n q => a c o (fun m => n (h c m)) q
theorem Kp.wr {S : List Addr} {H : Hp} {a : Addr} {o : HO} (h : a ∈ S) : Kp S H (upd H a o) := fun b u n q => by
  rw [upd_ne (show b ≠ a from fun e => n (by rw [e]; exact h))]; exact q
theorem Kp.new {S : List Addr} {H : Hp} {a : Addr} {o : HO} (h : H a = none) : Kp S H (L2.upd H a o) := fun b u n q => by
  rw [upd_ne (ne_of_none q h)]; exact q
theorem Kp.same {H H' : Hp} (h : Kp [] H H') : Same H H' := fun b o q => h b o (by simp) q
theorem sq_kp {K : PySem.W.Frag} {S : List Addr} {H H' : Hp} {p : Addr} {xs : List V} (k : Kp S H H') (n : p ∉ S) (h : SqL K H p xs) : SqL K H' p xs := by
  rcases h with (h | ⟨o, h⟩) | h
  · exact .inl (.inl (k _ _ n h))
  · exact .inl (.inr ⟨o, k _ _ n h⟩)
  · exact .inr h
/-- a list to be read is no instance's place -/
theorem sq_ins {K : PySem.W.Frag} {H : Hp} {p r C dx : Addr} {fs : List (Str × V)} {xs : List V} {o : HO} (hr : H r = some (.ins C dx fs)) (h : SqL K H p xs) : SqL K (upd H r o) p xs := by
  rcases h with (h | ⟨u, h⟩) | h
  · exact .inl (.inl ((upd_ne (ne_of h hr (by intro z; cases z))).trans h))
  · exact .inl (.inr ⟨u, (upd_ne (ne_of h hr (by intro z; cases z))).trans h⟩)
  · exact .inr h
/-- what is read of a list stays where all that is at its place stays -/
theorem sq_at {K : PySem.W.Frag} {H H' : Hp} {p : Addr} {xs : List V} (k : ∀ o, H p = some o → H' p = some o) (h : SqL K H p xs) : SqL K H' p xs := by
  rcases h with (h | ⟨o, h⟩) | h
  · exact .inl (.inl (k _ h))
  · exact .inl (.inr ⟨o, k _ h⟩)
  · exact .inr h

theorem Kp.none {S : List Addr} {H H' : Hp} {b : Addr} (k : Kp S H H') (n : b ∉ S) (h : H' b = none) : H b = none := by
  cases e : H b with
  | none => rfl
  | some o => rw [k b o n e] at h; cases h
/-- what stands at c or is new -/
def nw (H H' : Hp) (c : Addr) : Hp := fun b => if b = c ∨ H b = none then H' b else none
theorem nw_at {H H' : Hp} {c : Addr} : nw H H' c c = H' c := if_pos (.inl rfl)
theorem nw_new {H H' : Hp} {c b : Addr} (h : H b = none) : nw H H' c b = H' b := if_pos (.inr h)
/-- a new object -/
def alloc (H : Hp) (o : HO) (R : Addr → Hp → Prop) : KP R := ∀ p, H p = none → R p (upd H p o)
theorem alloc_of {H : Hp} {o : HO} {R : Addr → Hp → Prop} (h : ∀ p H2, H p = none → H2 p = some o → (∀ b u, H b = some u → H2 b = some u) → (∀ b, b ≠ p → H2 b = H b) → R p H2) : alloc H o R := fun p hp =>
  h p _ hp upd_same (fun b u e => (upd_ne (ne_of_none e hp)).trans e) (fun b n => upd_ne n)
theorem alloc_upd {H : Hp} {c : Addr} {o o2 : HO} {R : Addr → Hp → Prop} (h : ∀ p H2, p ≠ c → H p = none → H2 p = some o2 → H2 c = some o → Kp [c] H H2 → (∀ b, b ≠ p → b ≠ c → H2 b = H b) → R p H2) : alloc (upd H c o) o2 R := fun p hp => by
  have n : p ≠ c := fun e => by rw [e, upd_same] at hp; cases hp
  refine h p _ n ?_ upd_same ?_ ?_ ?_
  · rw [upd_ne n] at hp; exact hp
  · rw [upd_ne n.symm, upd_same]
  · intro b u nb hb
    simp at nb
    rw [upd_ne n] at hp
    rw [upd_ne (ne_of_none hb hp), upd_ne nb]; exact hb
  · intro b n1 n2
    rw [upd_ne n1, upd_ne n2]
@[simp] theorem upd_upd' {H : Hp} {a : Addr} {o u : HO} : upd (upd H a o) a u = upd H a u := L2.upd_upd
@[simp] theorem asB_bl {b : Bool} {R : Bool → Prop} : asB (.bl b) R ↔ R b := by simp [asB]
@[simp] theorem asI_int {b : Int} {R : Int → Prop} : asI (.int b) R ↔ R b := by simp [asI]
@[simp] theorem asR_ref {b : Addr} {R : Addr → Prop} : asR (.ref b) R ↔ R b := by simp [asR]
@[simp] theorem atO_some {α : Type} {b : α} {R : α → Prop} : atO (some b) R ↔ R b := by simp [atO]
@[simp] theorem slot_0 {v : V} {σ : L2.St} {R : V → Prop} : slot (some v :: σ) 0 R ↔ R v := by simp [slot]
@[simp] theorem slot_s {x : Option V} {σ : L2.St} {i : Nat} {R : V → Prop} : slot (x :: σ) (i + 1) R ↔ slot σ i R := by simp [slot]
@[simp] theorem insO_some {C dx : Addr} {fs : List (Str × V)} {R : Addr → Addr → List (Str × V) → Prop} : insO (some (.ins C dx fs)) R ↔ R C dx fs := ⟨by rintro ⟨_, _, _, h, r⟩; cases h; exact r, fun r => ⟨_, _, _, rfl, r⟩⟩
@[simp] theorem lstO_some {xs : List V} {R : List V → Prop} : lstO (some (.lst xs)) R ↔ R xs := by simp [lstO]
@[simp] theorem tupO_some {xs : List V} {R : List V → Prop} : tupO (some (.tup xs)) R ↔ R xs := by simp [tupO]
@[simp] theorem one_1 {x : V} {R : V → Prop} : one [x] R ↔ R x := by simp [one]
@[simp] theorem two_2 {x y : V} {R : V → V → Prop} : two [x, y] R ↔ R x y := ⟨by rintro ⟨_, _, h, r⟩; cases h; exact r, fun r => ⟨_, _, rfl, r⟩⟩
@[simp] theorem upd_at {H : Hp} {a b : Addr} {o : HO} : upd H a o b = if b = a then some o else H b := rfl
section
variable {σ : L2.St} {H : Hp} {Q : VK} {D : Ends} {K : PySem.W.Frag}
@[simp] theorem u_tVar {i : Nat} : tVar i σ H Q ↔ slot σ i fun v => Q v H := Iff.rfl
@[simp] theorem u_tC {v : V} : tC v σ H Q ↔ Q v H := Iff.rfl
@[simp] theorem u_tOp {r : R2} {ta tb : TE} : tOp r ta tb σ H Q ↔ ta σ H fun x H1 => tb σ H1 fun y H2 => r x y H2 Q := Iff.rfl
@[simp] theorem u_tUn {r : V → Hp → VK → Prop} {ta : TE} : tUn r ta σ H Q ↔ ta σ H fun x H1 => r x H1 Q := Iff.rfl
@[simp] theorem u_tB {t : TE} {R : Bool → Hp → Prop} : tB t σ H R ↔ t σ H fun x H1 => asB x fun c => R c H1 := Iff.rfl
@[simp] theorem u_tTest {t : TE} {R : Bool → Hp → Prop} : tTest t σ H R ↔ t σ H fun x H1 => asB x fun c => R c H1 := Iff.rfl
@[simp] theorem u_tAnd {t u : TT} {R : Bool → Hp → Prop} : tAnd t u σ H R ↔ t σ H fun c H1 => if c = true then u σ H1 R else R false H1 := Iff.rfl
@[simp] theorem u_tOr {t u : TT} {R : Bool → Hp → Prop} : tOr t u σ H R ↔ t σ H fun c H1 => if c = true then R true H1 else u σ H1 R := Iff.rfl
@[simp] theorem u_tNot {t : TT} {R : Bool → Hp → Prop} : tNot t σ H R ↔ t σ H fun c H1 => R (!c) H1 := Iff.rfl
@[simp] theorem u_tAndV {ta tb : TE} : tAndV ta tb σ H Q ↔ ta σ H fun x H1 => asB x fun c => if c = true then tb σ H1 Q else Q (.bl false) H1 := Iff.rfl
@[simp] theorem u_tOrV {ta tb : TE} : tOrV ta tb σ H Q ↔ ta σ H fun x H1 => asB x fun c => if c = true then Q (.bl true) H1 else tb σ H1 Q := Iff.rfl
@[simp] theorem u_tNotV {ta : TE} : tNotV ta σ H Q ↔ ta σ H fun x H1 => asB x fun c => Q (.bl (!c)) H1 := Iff.rfl
@[simp] theorem u_tIf {t : TT} {ta tb : TE} : tIf t ta tb σ H Q ↔ t σ H fun c H1 => if c = true then ta σ H1 Q else tb σ H1 Q := Iff.rfl
@[simp] theorem u_tNil {R : List V → Hp → Prop} : tNil σ H R ↔ R [] H := Iff.rfl
@[simp] theorem u_tCons {ta : TE} {tr : TA} {R : List V → Hp → Prop} : tCons ta tr σ H R ↔ ta σ H fun x H1 => tr σ H1 fun xs H2 => R (x :: xs) H2 := Iff.rfl
@[simp] theorem u_tCall {sp : Sp} {dvs : List V} {E : XK} {t : TA} : tCall sp dvs E t σ H Q ↔ t σ H fun vs H1 => sp (vs ++ dvs) H1 Q E := Iff.rfl
@[simp] theorem u_tMeth {C : Addr} {m : Str} {sp : Sp} {dvs : List V} {E : XK} {ta : TE} {t : TA} : tMeth C m sp dvs E ta t σ H Q ↔ ta σ H fun x H1 => asR x fun a => insO (H1 a) fun C' dx fs => C' = C ∧ noF fs m ∧ t σ H1 fun vs H2 => sp (.ref a :: vs ++ dvs) H2 Q E := by
  unfold tMeth asR insO noF
  apply iff_of_eq; congr; funext x H1; apply propext
  constructor
  · rintro ⟨a, dx, fs, rfl, h, l, q⟩; exact ⟨a, rfl, C, dx, fs, h, rfl, l, q⟩
  · rintro ⟨a, rfl, _, dx, fs, h, rfl, l, q⟩; exact ⟨a, dx, fs, rfl, h, l, q⟩
@[simp] theorem u_tMake {C : Addr} {sp : Sp} {dvs : List V} {E : XK} {t : TA} : tMake C sp dvs E t σ H Q ↔ t σ H fun vs H1 => ∀ x dx, H1 x = none → H1 dx = none → dx ≠ x →
    sp (.ref x :: vs ++ dvs) (upd (upd H1 dx (.own x)) x (.ins C dx [])) (fun v H2 => v = .non ∧ Q (.ref x) H2) E := Iff.rfl
@[simp] theorem u_tCB {r : List V → Hp → VK → Prop} {t : TA} : tCB r t σ H Q ↔ t σ H fun vs H1 => r vs H1 Q := Iff.rfl
@[simp] theorem u_tFld {ta : TE} {f : Str} : tFld K ta f σ H Q ↔ ta σ H fun x H1 => asR x fun a => insO (H1 a) fun C dx fs => Cls K C ∧ NoAttr K C f ∧ fldv fs f fun v => Q v H1 := by
  unfold tFld asR insO fldv
  apply iff_of_eq; congr; funext x H1; apply propext
  constructor
  · rintro ⟨a, C, dx, fs, v, rfl, h, c, n, l, q⟩; exact ⟨a, rfl, C, dx, fs, h, c, n, v, l, q⟩
  · rintro ⟨a, rfl, C, dx, fs, h, c, n, v, l, q⟩; exact ⟨a, C, dx, fs, v, rfl, h, c, n, l, q⟩
@[simp] theorem u_tLst {t : TA} : tLst t σ H Q ↔ t σ H fun xs H1 => xs.length ≤ sizeLine ∧ alloc H1 (.lst xs) fun p H2 => Q (.ref p) H2 := Iff.rfl
@[simp] theorem u_tTup {t : TA} : tTup t σ H Q ↔ t σ H fun xs H1 => xs.length ≤ sizeLine ∧ alloc H1 (.tup xs) fun p H2 => Q (.ref p) H2 := Iff.rfl
@[simp] theorem u_tSl {r : V → Option Int → Option Int → Hp → VK → Prop} {te : TE} {tl th : TO} : L2.tSl r te tl th σ H Q ↔ te σ H fun x H1 => tl σ H1 fun l H2 => th σ H2 fun u H3 => r x l u H3 Q := Iff.rfl
@[simp] theorem u_tNoPart {R : Option Int → Hp → Prop} : tNoPart σ H R ↔ R none H := Iff.rfl
@[simp] theorem u_tPart {t : TE} {R : Option Int → Hp → Prop} : tPart t σ H R ↔ t σ H fun x H1 => asI x fun i => R (some i) H1 := Iff.rfl
@[simp] theorem u_tBM {T : String} {r : V → List V → Hp → VK → Prop} {to : TE} {t : TA} : tBM K T r to t σ H Q ↔ to σ H fun x H1 => tyV K T x H1 ∧ t σ H1 fun xs H2 => r x xs H2 Q := Iff.rfl
-- statements
@[simp] theorem u_tNext : tNext D σ H ↔ D.nx σ H := Iff.rfl
@[simp] theorem u_tBreak : tBreak D σ H ↔ D.bk σ H := Iff.rfl
@[simp] theorem u_tCont : tCont D σ H ↔ D.ct σ H := Iff.rfl
theorem u_tSeq {t u : TS} : tSeq t u D σ H ↔ t { D with nx := u D } σ H := Iff.rfl
@[simp] theorem u_tIfS {c : TT} {t u : TS} : tIfS c t u D σ H ↔ c σ H fun b H1 => if b = true then t D σ H1 else u D σ H1 := Iff.rfl
@[simp] theorem u_tRet {te : TE} : tRet te D σ H ↔ te σ H D.rt := Iff.rfl
@[simp] theorem u_tRetN : tRetN D σ H ↔ D.rt .non H := Iff.rfl
@[simp] theorem u_tDrop {te : TE} : tDrop te D σ H ↔ te σ H fun _ H1 => D.nx σ H1 := Iff.rfl
@[simp] theorem u_gName {i : Nat} {v : V} {R : L2.St → Hp → Prop} : gName i v σ H R ↔ R (σ.set i (some v)) H := Iff.rfl
@[simp] theorem u_tAsg {te : TE} {g : TG} : tAsg te g D σ H ↔ te σ H fun x H1 => g x σ H1 D.nx := Iff.rfl
@[simp] theorem u_sFld {ta tv : TE} {f : Str} : sFld K ta tv f D σ H ↔ tv σ H fun y H1 => ta σ H1 fun x H2 => asR x fun a => insO (H2 a) fun C dx fs => Cls K C ∧ NoAttr K C f ∧ fs.length < 1000 ∧ D.nx σ (upd H2 a (.ins C dx (putF f y fs))) := by
  unfold sFld asR insO
  apply iff_of_eq; congr; funext y H1; congr; funext x H2; apply propext
  constructor
  · rintro ⟨a, C, dx, fs, rfl, h, c, n, l, q⟩; exact ⟨a, rfl, C, dx, fs, h, c, n, l, q⟩
  · rintro ⟨a, rfl, C, dx, fs, h, c, n, l, q⟩; exact ⟨a, C, dx, fs, rfl, h, c, n, l, q⟩
-- operators
variable {x y : V}
theorem sh2 {x y : V} {P : Int → Int → Prop} : (∃ i j, x = V.int i ∧ y = V.int j ∧ P i j) ↔ asI x fun i => asI y fun j => P i j := by
  unfold asI
  constructor
  · rintro ⟨i, j, rfl, rfl, q⟩; exact ⟨i, rfl, j, rfl, q⟩
  · rintro ⟨i, rfl, j, rfl, q⟩; exact ⟨i, j, rfl, rfl, q⟩
@[simp] theorem u_oAdd : oAdd x y H Q ↔ asI x fun i => asI y fun j => Q (.int (i + j)) H := sh2
@[simp] theorem u_oSub : oSub x y H Q ↔ asI x fun i => asI y fun j => Q (.int (i - j)) H := sh2
@[simp] theorem u_oLt : oLt x y H Q ↔ asI x fun i => asI y fun j => Q (.bl (decide (i < j))) H := sh2
@[simp] theorem u_oLe : oLe x y H Q ↔ asI x fun i => asI y fun j => Q (.bl (decide (i ≤ j))) H := sh2
@[simp] theorem u_oGt : oGt x y H Q ↔ asI x fun i => asI y fun j => Q (.bl (decide (j < i))) H := sh2
@[simp] theorem u_oGe : oGe x y H Q ↔ asI x fun i => asI y fun j => Q (.bl (decide (j ≤ i))) H := sh2
@[simp] theorem u_oNeg : oNeg x H Q ↔ asI x fun i => Q (.int (-i)) H := Iff.rfl
@[simp] theorem u_rEq : rEq x y H Q ↔ scal x y = true ∧ Q (.bl (decide (x = y))) H := Iff.rfl
@[simp] theorem u_rNe : rNe x y H Q ↔ scal x y = true ∧ Q (.bl (!decide (x = y))) H := Iff.rfl
@[simp] theorem u_scal_ii {i j : Int} : scal (.int i) (.int j) = true := rfl
@[simp] theorem u_scal_bb {i j : Bool} : scal (.bl i) (.bl j) = true := rfl
@[simp] theorem u_rAppend {vs : List V} : rAppend x vs H Q ↔ asR x fun l => one vs fun y => lstO (H l) fun xs => xs.length < sizeLine ∧ Q .non (upd H l (.lst (xs ++ [y]))) := by
  unfold rAppend asR one lstO
  constructor
  · rintro ⟨l, xs, y, rfl, rfl, h, q⟩; exact ⟨l, rfl, y, rfl, xs, h, q⟩
  · rintro ⟨l, rfl, y, rfl, xs, h, q⟩; exact ⟨l, xs, y, rfl, rfl, h, q⟩
@[simp] theorem u_rExtend {vs : List V} : rExtend x vs H Q ↔ asR x fun l => one vs fun y => asR y fun b => lstO (H l) fun xs => lstO (H b) fun zs => xs.length + zs.length ≤ sizeLine ∧ Q .non (upd H l (.lst (xs ++ zs))) := by
  unfold rExtend asR one lstO
  constructor
  · rintro ⟨l, b, xs, zs, rfl, rfl, h, h2, q⟩; exact ⟨l, rfl, _, rfl, b, rfl, xs, h, zs, h2, q⟩
  · rintro ⟨l, rfl, _, rfl, b, rfl, xs, h, zs, h2, q⟩; exact ⟨l, b, xs, zs, rfl, rfl, h, h2, q⟩
end
theorem ofString_inj {a b : String} : Str.ofString a = Str.ofString b ↔ a = b := by
  refine ⟨fun h => ?_, fun h => by rw [h]⟩
  rw [Str.ofString_eq_toList, Str.ofString_eq_toList] at h
  have h1 : a.toList.map Char.toNat = b.toList.map Char.toNat := by
    have := congrArg (fun s : Str => s.cps.toList) h
    simpa using this
  have h2 : a.toList = b.toList := by
    refine (List.map_inj_right ?_).mp h1
    intro x y e
    exact Char.ext (UInt32.toNat_inj.mp e)
  exact String.toList_inj.mp h2
@[simp] theorem ofString_eq {a b : String} : (Str.ofString a = Str.ofString b) = (a = b) := propext ofString_inj
@[simp] theorem ofString_beq {a b : String} : (Str.ofString a == Str.ofString b) = (a == b) := by
  by_cases h : a = b
  · subst h; simp
  · rw [beq_eq_false_iff_ne.mpr h, beq_eq_false_iff_ne.mpr (fun e => h (ofString_inj.mp e))]

section
variable {σ : L2.St} {H : Hp} {Q : VK} {D : Ends} {K : PySem.W.Frag}
/-- a for over a list that stays as it is -/
theorem for_seq {tl : TE} {g : TG} {tb : TS} {a : Addr} {xs : List V} (Pv : Nat → L2.St → Hp → Prop) (he : ∀ R : VK, R (.ref a) H → tl σ H R) (h0 : Pv 0 σ H) (hl : ∀ i σ H, Pv i σ H → SqL K H a xs)
    (hs : ∀ i x σ H, xs[i]? = some x → Pv i σ H → g x σ H fun σ2 H2 => tb { D with nx := Pv (i + 1), ct := Pv (i + 1), bk := D.nx } σ2 H2) (hd : ∀ σ H, Pv xs.length σ H → D.nx σ H) : tFor (iList K tl) g tb D σ H := by
  refine he _ ⟨a, rfl, ⟨_, hl 0 σ H h0⟩, ?_⟩
  exact for_list (K := K) (a := a) (xs := xs) Pv h0 (fun i σ H _ p => hl i σ H p) hs hd
theorem len_seq {a : Addr} {xs : List V} (h : SqL K H a xs) (q : Q (.int xs.length) H) : oLen K [.ref a] H Q := ⟨a, xs, rfl, .inl h, q⟩
theorem len_ints {a : Addr} {xs : List Int} (h : SqL K H a (xs.map V.int)) (q : Q (.int xs.length) H) : oLen K [.ref a] H Q := ⟨a, _, rfl, .inl h, by simpa using q⟩
end
theorem all_take {f : Int → Bool} {l : List Int} {i : Nat} {x : Int} (h : l[i]? = some x) (ha : (l.take i).all f = true) (hx : f x = true) : (l.take (i + 1)).all f = true := by
  rw [List.take_add_one, h]
  simp only [List.all_append, ha, Option.toList_some, List.all_cons, hx, List.all_nil, Bool.and_true]
theorem all_false {f : Int → Bool} {l : List Int} {i : Nat} {x : Int} (h : l[i]? = some x) (hx : f x = false) : l.all f = false := by
  rw [List.all_eq_false]
  exact ⟨x, List.mem_of_getElem? h, by simp [hx]⟩
theorem map_some {l : List Int} {i : Nat} {y : V} (h : (l.map V.int)[i]? = some y) : ∃ x, l[i]? = some x ∧ y = V.int x := by
  rw [List.getElem?_map] at h
  cases e : l[i]? with
  | none => rw [e] at h; cases h
  | some x => rw [e] at h; exact ⟨x, rfl, (Option.some.inj h).symm⟩
section
variable {σ : L2.St} {H : Hp} {Q : VK} {D : Ends} {K : PySem.W.Frag} {x y : V}
@[simp] theorem u_tIsN {ta : TE} : tIsN ta σ H Q ↔ ta σ H fun x H1 => Q (.bl (decide (x = .non))) H1 := Iff.rfl
@[simp] theorem u_tNotN {ta : TE} : tNotN ta σ H Q ↔ ta σ H fun x H1 => Q (.bl (!decide (x = .non))) H1 := Iff.rfl
@[simp] theorem u_tDNewK : tDNewK σ H Q ↔ alloc H (.dK []) fun p H2 => Q (.ref p) H2 := Iff.rfl
@[simp] theorem u_tYes {R : Bool → Hp → Prop} : tYes σ H R ↔ R true H := Iff.rfl
@[simp] theorem u_rRep : rRep x y H Q ↔ asR x fun l => asI y fun k => lstO (H l) fun xs => -(2 ^ 63) ≤ k ∧ k < 2 ^ 63 ∧ xs.length * k.toNat ≤ sizeLine ∧ alloc H (.lst (List.replicate k.toNat xs).flatten) fun p H2 => Q (.ref p) H2 := by
  unfold rRep asR asI lstO alloc
  constructor
  · rintro ⟨l, k, xs, rfl, rfl, h, q⟩; exact ⟨l, rfl, k, rfl, xs, h, q⟩
  · rintro ⟨l, rfl, k, rfl, xs, h, q⟩; exact ⟨l, k, xs, rfl, rfl, h, q⟩
@[simp] theorem u_rCat : rCat x y H Q ↔ asR x fun l => asR y fun b => lstO (H l) fun xs => lstO (H b) fun zs => xs.length + zs.length ≤ sizeLine ∧ alloc H (.lst (xs ++ zs)) fun p H2 => Q (.ref p) H2 := by
  unfold rCat asR lstO alloc
  constructor
  · rintro ⟨l, b, xs, zs, rfl, rfl, h, h2, q⟩; exact ⟨l, rfl, b, rfl, xs, h, zs, h2, q⟩
  · rintro ⟨l, rfl, b, rfl, xs, h, zs, h2, q⟩; exact ⟨l, b, xs, zs, rfl, rfl, h, h2, q⟩
theorem alloc_new {o : HO} {R : Addr → Hp → Prop} (h : ∀ p H2, H p = none → H2 p = some o → Same H H2 → R p H2) : alloc H o R := fun p hp =>
  h p _ hp upd_same (fun b u e => (upd_ne (ne_of_none e hp)).trans e)
theorem sl_of {a : Addr} {xs : List V} {l u : Option Int} (h : SqL K H a xs) (q : alloc H (.lst (cutV xs l u)) fun p H2 => Q (.ref p) H2) : rSlL K (.ref a) l u H Q := ⟨a, xs, rfl, h, q⟩
theorem ix_of {p : Addr} {xs : List V} {i : Nat} {v : V} (hS : SqL K H p xs) (hi : xs[i]? = some v) (q : Q v H) : rIxL K (.ref p) (.int (i : Int)) H Q :=
  ⟨p, _, i, v, rfl, rfl, hS, atI_nat hi, q⟩
theorem ix_of' {p : Addr} {xs : List V} {j : Int} {i : Nat} {v : V} (hS : SqL K H p xs) (e : j = (i : Int)) (hi : xs[i]? = some v) (q : Q v H) : rIxL K (.ref p) (.int j) H Q := by
  subst e; exact ix_of hS hi q
theorem len_of {a : Addr} {xs : List V} (h : H a = some (.lst xs)) (q : Q (.int xs.length) H) : oLen K [.ref a] H Q := len_seq (SqL.of h) q
/-- for i, x in enumerate(xs) -/
theorem for_enum {tl : TA} {tb : TS} {a : Addr} {xs : List V} {i j : Nat} (Pv : Nat → L2.St → Hp → Prop) (he : ∀ R : List V → Hp → Prop, R [.ref a] H → tl σ H R) (h0 : Pv 0 σ H) (hl : ∀ n σ H, Pv n σ H → SqL K H a xs)
    (hs : ∀ n x σ H T, xs[n]? = some x → Pv n σ H → H T = none → tb { D with nx := Pv (n + 1), ct := Pv (n + 1), bk := D.nx } ((σ.set i (some (.int (n : Nat)))).set j (some x)) (upd H T (.tup [.int (n : Nat), x])))
    (hd : ∀ σ H, Pv xs.length σ H → D.nx σ H) : tFor (iEnum K tl) (gTup K 2 (gCons (gName i) (gCons (gName j) gNil))) tb D σ H := by
  refine he _ ⟨a, xs, rfl, hl 0 σ H h0, ?_⟩
  refine for_it (walk_enum (K := K) (a := a) (xs := xs)) Pv h0 (fun n σ H _ p => hl n σ H p) ?_ hd
  rintro n x σ H H' hn p ⟨T, u, v, rfl, hT, rfl, e1, e2⟩
  cases e1
  refine ⟨T, _, rfl, SqT.of upd_same, rfl, _, _, rfl, ?_⟩
  show gCons (gName j) gNil [v] _ _ _
  refine ⟨_, _, rfl, ?_⟩
  exact ⟨rfl, hs n v σ H T e2 p hT⟩
/-- for x in reversed(xs) -/
theorem for_rev {tl : TA} {g : TG} {tb : TS} {a : Addr} {xs : List V} (Pv : Nat → L2.St → Hp → Prop) (he : ∀ R : List V → Hp → Prop, R [.ref a] H → tl σ H R) (h0 : Pv 0 σ H) (hl : ∀ n σ H, Pv n σ H → SqL K H a xs)
    (hs : ∀ n x σ H, n < xs.length → xs[xs.length - 1 - n]? = some x → Pv n σ H → g x σ H fun σ2 H2 => tb { D with nx := Pv (n + 1), ct := Pv (n + 1), bk := D.nx } σ2 H2)
    (hd : ∀ σ H, Pv xs.length σ H → D.nx σ H) : tFor (iRev K tl) g tb D σ H := by
  refine he _ ⟨a, xs, rfl, hl 0 σ H h0, ?_⟩
  refine for_it (walk_rev (K := K) (a := a) (xs := xs)) Pv h0 (fun n σ H _ p => hl n σ H p) ?_ hd
  rintro n x σ H H' hn p ⟨rfl, e⟩
  exact hs n x σ H' hn e p
/-- for x in range(n) -/
theorem for_rng {tl : TA} {g : TG} {tb : TS} {n : Int} (Pv : Nat → L2.St → Hp → Prop) (he : ∀ R : List V → Hp → Prop, R [.int n] H → tl σ H R) (h1 : -(2 ^ 62) ≤ n) (h2 : n < 2 ^ 62) (h0 : Pv 0 σ H)
    (hs : ∀ i σ H, i < n.toNat → Pv i σ H → g (.int (i : Nat)) σ H fun σ2 H2 => tb { D with nx := Pv (i + 1), ct := Pv (i + 1), bk := D.nx } σ2 H2)
    (hd : ∀ σ H, Pv n.toNat σ H → D.nx σ H) : tFor (iRng1 tl) g tb D σ H := by
  refine he _ ⟨n, rfl, h1, h2, ?_⟩
  refine for_it (walk_range (lo := 0) (n := n.toNat)) Pv h0 (fun _ _ _ _ _ => trivial) ?_ hd
  rintro i x σ H H' hn p ⟨rfl, rfl⟩
  simp only [Int.zero_add]
  exact hs i σ H' hn p
/-- a comprehension over a list whose tests and items leave the heap as it is -/
theorem lc_pure {tl : TE} {tt : TT} {te : TE} {a : Addr} {xs : List V} {i : Nat} (kp : V → Bool) (f : V → V) (he : ∀ R : VK, R (.ref a) H → tl σ H R) (hl : SqL K H a xs) (hz : xs.length ≤ sizeLine)
    (ht : ∀ x ∈ xs, ∀ (H' : Hp) (R : Bool → Hp → Prop), Same H H' → R (kp x) H' → tt (σ.set i (some x)) H' R)
    (hf : ∀ x ∈ xs, kp x = true → ∀ (H' : Hp) (R : VK), Same H H' → R (f x) H' → te (σ.set i (some x)) H' R)
    (q : alloc H (.lst ((xs.filter kp).map f)) fun p H2 => Q (.ref p) H2) : tLc (iList K tl) (gName i) tt te [i] σ H Q := by
  refine he _ ⟨a, rfl, ⟨_, hl⟩, fun D hD => ?_⟩
  have up : ∀ o, Same H (upd H D o) := fun o b u e => (upd_ne (ne_of_none e hD)).trans e
  have wp : ∀ v, wipe (σ.set i v) [i] = wipe σ [i] := fun v => by simp [wipe]
  refine lc_list (K := K) (a := a) (xs := xs) (fun n H' => H' = upd H D (.lst (((xs.take n).filter kp).map f))) rfl ?_ ?_ ?_
  · rintro n H' _ rfl
    exact sq_at (fun o e => up _ _ _ e) hl
  · rintro n x H' hx rfl
    have hm : x ∈ xs := List.mem_of_getElem? hx
    simp only [u_gName]
    have ew : (wipe σ [i]).set i (some x) = σ.set i (some x) := by simp [wipe]
    rw [ew]
    refine ⟨wp _, ht x hm _ _ (up _) ?_⟩
    have tk : (xs.take (n + 1)).filter kp = (xs.take n).filter kp ++ if kp x = true then [x] else [] := by
      rw [List.take_add_one, hx, Option.toList_some, List.filter_append]
      simp [List.filter_cons]
    cases e : kp x with
    | true =>
      rw [if_pos rfl]
      refine hf x hm e _ _ (up _) ⟨_, upd_same, ?_, ?_⟩
      · have h1 : n < xs.length := (List.getElem?_eq_some_iff.mp hx).1
        have h2 := List.length_filter_le kp (xs.take n)
        rw [List.length_map]
        rw [List.length_take] at h2
        omega
      · rw [tk, e, if_pos rfl, List.map_append, upd_upd']
        rfl
    | false =>
      rw [if_neg (by simp), tk, e, if_neg (by simp), List.append_nil]
  · rintro H' rfl
    have := q D hD
    rw [List.take_length]
    exact this
end
/-! ### lists of ints, == of them -/
theorem dp_ints {K : PySem.W.Frag} {H : Hp} : ∀ xs : List Int, DpAll K H (xs.map V.int) (xs.map PyData.int)
  | [] => .nil
  | x :: xs => .cons (.int x) (dp_ints xs)
theorem eqv_ints : ∀ xs ys : List Int, PyData.eqvAll (xs.map PyData.int) (ys.map PyData.int) = decide (xs = ys)
  | [], [] => by simp [PyData.eqvAll]
  | [], _ :: _ => by simp [PyData.eqvAll]
  | _ :: _, [] => by simp [PyData.eqvAll]
  | x :: xs, y :: ys => by
    simp only [List.map_cons, PyData.eqvAll, PyData.eqv, eqv_ints xs ys]
    by_cases h : x = y <;> by_cases h2 : xs = ys <;> simp [h, h2]
theorem canLay_ints : ∀ xs : List Int, PyData.canLayAll0 (xs.map PyData.int) = true
  | [] => by simp [PyData.canLayAll0]
  | x :: xs => by simp [PyData.canLayAll0, PyData.canLay0, canLay_ints xs]
theorem shaped_ints (xs : List Int) : SeqAt.shaped (.list (xs.map PyData.int)) = true := by
  have e : (PyData.list (xs.map PyData.int)).depth = 1 := by rw [PyData.depth, PySem.W.depth_ints]
  unfold SeqAt.shaped
  rw [e, PyData.canLay0, canLay_ints]
  decide
section
variable {H : Hp} {Q : VK} {K : PySem.W.Frag}
theorem eqd_ints {a b : Addr} {xs ys : List Int} (h1 : SqL K H a (xs.map V.int)) (h2 : SqL K H b (ys.map V.int)) (q : Q (.bl (decide (xs = ys))) H) : rEqD K (.ref a) (.ref b) H Q := by
  refine ⟨_, _, .lst h1 (dp_ints xs), .lst h2 (dp_ints ys), shaped_ints _, shaped_ints _, ?_⟩
  rw [PyData.eqv, eqv_ints]; exact q
end
end LD

namespace LD
open PySem PySem.Spec PyProof.Rows L2
def sp_is_day : Sp := fun vs H Q _ => ∃ d : Int, vs = [.int d] ∧ Q (.bl (decide (d ≤ 1048576))) H
def sp_is_law : Sp := fun vs H Q _ => ∃ d : Int, vs = [.int d] ∧ Q (.bl (decide (d ≤ 63))) H
def mSpan (b t : Int) : Bool := decide (b ≤ 1048576) && (decide (t = 0) || (decide (b < t) && decide (t ≤ 1048576)))
def sp_is_span : Sp := fun vs H Q _ => ∃ b t : Int, vs = [.int b, .int t] ∧ Q (.bl (mSpan b t)) H
def mTB (b : Int) : Bool := decide (32 ≤ b) && decide (b ≤ 126)
def mLB (b : Int) : Bool := mTB b && (!decide (b = 32) && (!decide (b = 91) && !decide (b = 93)))
def sp_is_text_byte : Sp := fun vs H Q _ => ∃ b : Int, vs = [.int b] ∧ Q (.bl (mTB b)) H
def sp_is_label_byte : Sp := fun vs H Q _ => ∃ b : Int, vs = [.int b] ∧ Q (.bl (mLB b)) H
def mLabel (l : List Int) : Bool := !decide (l.length = 0) && (decide (l.length ≤ 16) && l.all mLB)
def mText (l : List Int) : Bool := decide (l.length ≤ 1024) && l.all mTB
def sp_is_label (K : PySem.W.Frag) : Sp := fun vs H Q _ => ∃ (a : Addr) (l : List Int), vs = [.ref a] ∧ SqL K H a (l.map V.int) ∧ Q (.bl (mLabel l)) H
def sp_is_text (K : PySem.W.Frag) : Sp := fun vs H Q _ => ∃ (a : Addr) (l : List Int), vs = [.ref a] ∧ SqL K H a (l.map V.int) ∧ Q (.bl (mText l)) H
def sp_is_place (K : PySem.W.Frag) : Sp := fun vs H Q _ => ∃ (a : Addr) (l : List Int), vs = [.ref a] ∧ SqL K H a (l.map V.int) ∧ Q (.bl (decide (l.length = 0) || mLabel l)) H
def sp_is_old (K : PySem.W.Frag) : Sp := fun vs H Q _ => ∃ (a : Addr) (l : List Int), vs = [.ref a] ∧ SqL K H a (l.map V.int) ∧ Q (.bl (decide (0 < l.length) && mText l)) H
section
variable {K : PySem.W.Frag} {A : Ad}
theorem pure_is_day (vs : List V) (H : Hp) (Q : VK) (E : XK) (h : sp_is_day vs H Q E) : t_is_day K A { nx := fun _ H' => Q .non H', rt := Q } (L2.start ["day"] vs) H := by
  obtain ⟨d, rfl, q⟩ := h
  simpa [t_is_day, L2.start] using q
theorem pure_is_law (vs : List V) (H : Hp) (Q : VK) (E : XK) (h : sp_is_law vs H Q E) : t_is_law K A { nx := fun _ H' => Q .non H', rt := Q } (L2.start ["law"] vs) H := by
  obtain ⟨d, rfl, q⟩ := h
  simpa [t_is_law, L2.start] using q
theorem pure_is_span (vs : List V) (H : Hp) (Q : VK) (E : XK) (h : sp_is_span vs H Q E) : t_is_span K A sp_is_day { nx := fun _ H' => Q .non H', rt := Q } (L2.start ["begins", "till"] vs) H := by
  obtain ⟨b, t, rfl, q⟩ := h
  simp [u_tSeq, t_is_span, L2.start, sp_is_day]
  repeat' split
  all_goals simp_all [mSpan]
theorem pure_is_text_byte (vs : List V) (H : Hp) (Q : VK) (E : XK) (h : sp_is_text_byte vs H Q E) : t_is_text_byte K A { nx := fun _ H' => Q .non H', rt := Q } (L2.start ["byte"] vs) H := by
  obtain ⟨b, rfl, q⟩ := h
  simp [u_tSeq, t_is_text_byte, L2.start]
  split
  all_goals simp_all [mTB]
theorem pure_is_label_byte (vs : List V) (H : Hp) (Q : VK) (E : XK) (h : sp_is_label_byte vs H Q E) : t_is_label_byte K A sp_is_text_byte { nx := fun _ H' => Q .non H', rt := Q } (L2.start ["byte"] vs) H := by
  obtain ⟨b, rfl, q⟩ := h
  simp [u_tSeq, t_is_label_byte, L2.start, sp_is_text_byte]
  repeat' split
  all_goals simp_all [mLB]
theorem pure_is_label (vs : List V) (H : Hp) (Q : VK) (E : XK) (h : sp_is_label K vs H Q E) : t_is_label K A sp_is_label_byte { nx := fun _ H' => Q .non H', rt := Q } (L2.start ["row", "byte"] vs) H := by
  obtain ⟨a, l, rfl, hS, q⟩ := h
  simp [u_tSeq, t_is_label, L2.start, sp_is_label_byte]
  refine len_ints hS ?_
  simp
  split
  · simp_all [mLabel]
  refine len_ints hS ?_
  simp
  split
  · rename_i h1
    have : ¬ l.length ≤ 16 := by omega
    simp_all [mLabel]
  refine for_seq (a := a) (xs := l.map V.int) (fun i σ H' => ∃ v, σ = [some (.ref a), v] ∧ H' = H ∧ (l.take i).all mLB = true) (fun R r => by simpa using r) ⟨_, rfl, rfl, rfl⟩ ?_ ?_ ?_
  · rintro i σ H' ⟨v, rfl, rfl, _⟩; exact hS
  · rintro i x σ H' hx ⟨v, rfl, rfl, ha⟩
    obtain ⟨z, hz, rfl⟩ := map_some hx
    simp [sp_is_label_byte]
    cases e : mLB z with
    | true => simpa using all_take hz ha e
    | false =>
      have := all_false hz e
      simp_all [mLabel]
  · rintro σ H' ⟨v, rfl, rfl, ha⟩
    simp at ha
    have : l.all mLB = true := by simpa using ha
    have : l.length ≤ 16 := by omega
    simp_all [mLabel]
theorem pure_is_text (vs : List V) (H : Hp) (Q : VK) (E : XK) (h : sp_is_text K vs H Q E) : t_is_text K A sp_is_text_byte { nx := fun _ H' => Q .non H', rt := Q } (L2.start ["row", "byte"] vs) H := by
  obtain ⟨a, l, rfl, hS, q⟩ := h
  simp [u_tSeq, t_is_text, L2.start, sp_is_text_byte]
  refine len_ints hS ?_
  simp
  split
  · rename_i h1
    have : ¬ l.length ≤ 1024 := by omega
    simp_all [mText]
  refine for_seq (a := a) (xs := l.map V.int) (fun i σ H' => ∃ v, σ = [some (.ref a), v] ∧ H' = H ∧ (l.take i).all mTB = true) (fun R r => by simpa using r) ⟨_, rfl, rfl, rfl⟩ ?_ ?_ ?_
  · rintro i σ H' ⟨v, rfl, rfl, _⟩; exact hS
  · rintro i x σ H' hx ⟨v, rfl, rfl, ha⟩
    obtain ⟨z, hz, rfl⟩ := map_some hx
    simp [sp_is_text_byte]
    cases e : mTB z with
    | true => simpa using all_take hz ha e
    | false =>
      have := all_false hz e
      simp_all [mText]
  · rintro σ H' ⟨v, rfl, rfl, ha⟩
    simp at ha
    have : l.all mTB = true := by simpa using ha
    have : l.length ≤ 1024 := by omega
    simp_all [mText]
theorem pure_is_place (vs : List V) (H : Hp) (Q : VK) (E : XK) (h : sp_is_place K vs H Q E) : t_is_place K A (sp_is_label K) { nx := fun _ H' => Q .non H', rt := Q } (L2.start ["after"] vs) H := by
  obtain ⟨a, l, rfl, hS, q⟩ := h
  simp [u_tSeq, t_is_place, L2.start]
  refine len_ints hS ?_
  simp
  split
  · simp_all
  · exact ⟨a, l, rfl, hS, by simp_all⟩
theorem pure_is_old (vs : List V) (H : Hp) (Q : VK) (E : XK) (h : sp_is_old K vs H Q E) : t_is_old K A (sp_is_text K) { nx := fun _ H' => Q .non H', rt := Q } (L2.start ["old"] vs) H := by
  obtain ⟨a, l, rfl, hS, q⟩ := h
  simp [u_tSeq, t_is_old, L2.start]
  refine len_ints hS ?_
  simp
  split
  · exact ⟨a, l, rfl, hS, by simp_all⟩
  · simp_all
end
end LD

namespace LD
open PySem PySem.Spec PyProof.Rows L2
/-! ### two lists, item by item -/
inductive All2 {α β : Type} (R : α → β → Prop) : List α → List β → Prop
  | nil : All2 R [] []
  | cons {a b as bs} : R a b → All2 R as bs → All2 R (a :: as) (b :: bs)
namespace All2
variable {α β : Type} {R R' : α → β → Prop}
theorem len {as : List α} {bs : List β} (h : All2 R as bs) : as.length = bs.length := by
  induction h with
  | nil => rfl
  | cons _ _ ih => simp [ih]
theorem imp {as : List α} {bs : List β} (h : All2 R as bs) (f : ∀ a b, R a b → R' a b) : All2 R' as bs := by
  induction h with
  | nil => exact .nil
  | cons h _ ih => exact .cons (f _ _ h) ih
theorem app {as cs : List α} {bs ds : List β} (h : All2 R as bs) (h2 : All2 R cs ds) : All2 R (as ++ cs) (bs ++ ds) := by
  induction h with
  | nil => exact h2
  | cons h _ ih => exact .cons h ih
theorem take {as : List α} {bs : List β} (h : All2 R as bs) : ∀ n, All2 R (as.take n) (bs.take n) := by
  induction h with
  | nil => intro n; simp; exact .nil
  | cons h _ ih =>
    intro n
    cases n with
    | zero => exact .nil
    | succ n => exact .cons h (ih n)
theorem drop {as : List α} {bs : List β} (h : All2 R as bs) : ∀ n, All2 R (as.drop n) (bs.drop n) := by
  induction h with
  | nil => intro n; simp; exact .nil
  | cons h t ih =>
    intro n
    cases n with
    | zero => exact .cons h t
    | succ n => exact ih n
theorem get {as : List α} {bs : List β} (h : All2 R as bs) : ∀ {n : Nat} {a : α}, as[n]? = some a → ∃ b, bs[n]? = some b ∧ R a b := by
  induction h with
  | nil => intro n a e; simp at e
  | cons h t ih =>
    intro n a e
    cases n with
    | zero => simp at e; subst e; exact ⟨_, rfl, h⟩
    | succ n => exact ih (by simpa using e)
theorem get' {as : List α} {bs : List β} (h : All2 R as bs) : ∀ {n : Nat} {b : β}, bs[n]? = some b → ∃ a, as[n]? = some a ∧ R a b := by
  induction h with
  | nil => intro n a e; simp at e
  | cons h t ih =>
    intro n a e
    cases n with
    | zero => simp at e; subst e; exact ⟨_, rfl, h⟩
    | succ n => exact ih (by simpa using e)
theorem mem {as : List α} {bs : List β} (h : All2 R as bs) {a : α} (m : a ∈ as) : ∃ b ∈ bs, R a b := by
  obtain ⟨n, e⟩ := List.getElem?_of_mem m
  obtain ⟨b, e2, r⟩ := h.get e
  exact ⟨b, List.mem_of_getElem? e2, r⟩
theorem map1 {γ : Type} {f : γ → α} {as : List γ} {bs : List β} (h : All2 (fun c b => R (f c) b) as bs) : All2 R (as.map f) bs := by
  induction h with
  | nil => exact .nil
  | cons h _ ih => exact .cons h ih
theorem map2 {γ : Type} {f : γ → β} {as : List α} {bs : List γ} (h : All2 (fun a c => R a (f c)) as bs) : All2 R as (bs.map f) := by
  induction h with
  | nil => exact .nil
  | cons h _ ih => exact .cons h ih
theorem map2' {γ : Type} {f : β → γ} {R'' : α → γ → Prop} {as : List α} {bs : List β} (h : All2 R as bs) (hf : ∀ a b, R a b → R'' a (f b)) : All2 R'' as (bs.map f) := by
  induction h with
  | nil => exact .nil
  | cons h _ ih => exact .cons (hf _ _ h) ih
end All2
/-! ### owned cells -/
def Pl : HO → Prop
  | .tbl _ => False
  | .ext _ => False
  | _ => True
abbrev Cells := List (Addr × HO)
def keys (mu : Cells) : List Addr := mu.map (·.1)
structure At (mu : Cells) (H : Hp) : Prop where
  nd : (keys mu).Nodup
  at_ : ∀ p ∈ mu, H p.1 = some p.2
  pl : ∀ p ∈ mu, Pl p.2
theorem keys_cons {b : Addr} {o : HO} {mu : Cells} : keys ((b, o) :: mu) = b :: keys mu := rfl
theorem keys_app {mu nu : Cells} : keys (mu ++ nu) = keys mu ++ keys nu := by simp [keys]
theorem At.hd {b : Addr} {o : HO} {mu : Cells} {H : Hp} (h : At ((b, o) :: mu) H) : H b = some o := h.at_ (b, o) (by simp)
theorem At.tl {p : Addr × HO} {mu : Cells} {H : Hp} (h : At (p :: mu) H) : At mu H :=
  ⟨(List.nodup_cons.mp h.nd).2, fun q m => h.at_ q (by simp [m]), fun q m => h.pl q (by simp [m])⟩
theorem At.mem {mu : Cells} {H : Hp} {b : Addr} {o : HO} (h : At mu H) (m : (b, o) ∈ mu) : H b = some o := h.at_ _ m
theorem At.perm {mu nu : Cells} {H : Hp} (h : At mu H) (p : mu.Perm nu) : At nu H :=
  ⟨(p.map _).nodup_iff.mp h.nd, fun q m => h.at_ q (p.mem_iff.mpr m), fun q m => h.pl q (p.mem_iff.mpr m)⟩
theorem At.right {mu nu : Cells} {H : Hp} (h : At (mu ++ nu) H) : At nu H :=
  ⟨(List.nodup_append.mp (by have := h.nd; rwa [keys_app] at this)).2.1, fun q m => h.at_ q (by simp [m]), fun q m => h.pl q (by simp [m])⟩
theorem At.left {mu nu : Cells} {H : Hp} (h : At (mu ++ nu) H) : At mu H :=
  ⟨(List.nodup_append.mp (by have := h.nd; rwa [keys_app] at this)).1, fun q m => h.at_ q (by simp [m]), fun q m => h.pl q (by simp [m])⟩
theorem At.some {mu : Cells} {H : Hp} (h : At mu H) {b : Addr} (m : b ∈ keys mu) : ∃ o, H b = Option.some o ∧ Pl o := by
  simp only [keys, List.mem_map] at m
  obtain ⟨p, m, rfl⟩ := m
  exact ⟨p.2, h.at_ p m, h.pl p m⟩
theorem At.ne {mu : Cells} {H : Hp} (h : At mu H) : ∀ b ∈ keys mu, H b ≠ none := fun b m => by
  obtain ⟨o, e, _⟩ := h.some m
  rw [e]; simp
theorem At.notin {mu : Cells} {H : Hp} (h : At mu H) {p : Addr} (n : H p = none) : p ∉ keys mu := fun m => h.ne p m n
theorem At.same {mu : Cells} {H H' : Hp} (h : At mu H) (k : Same H H') : At mu H' := ⟨h.nd, fun p m => k _ _ (h.at_ p m), h.pl⟩
theorem At.kp {S : List Addr} {mu : Cells} {H H' : Hp} (h : At mu H) (k : Kp S H H') (n : ∀ b ∈ keys mu, b ∉ S) : At mu H' :=
  ⟨h.nd, fun p m => k _ _ (n _ (List.mem_map.mpr ⟨p, m, rfl⟩)) (h.at_ p m), h.pl⟩
theorem At.set {b : Addr} {o o' : HO} {mu : Cells} {H : Hp} (h : At ((b, o) :: mu) H) (hp : Pl o') : At ((b, o') :: mu) (upd H b o') := by
  refine ⟨h.nd, fun p m => ?_, fun p m => ?_⟩
  · simp only [List.mem_cons] at m
    rcases m with rfl | m
    · exact upd_same
    · have : p.1 ≠ b := fun e => (List.nodup_cons.mp h.nd).1 (by rw [← e]; exact List.mem_map.mpr ⟨p, m, rfl⟩)
      rw [upd_ne this]; exact h.at_ p (by simp [m])
  · simp only [List.mem_cons] at m
    rcases m with rfl | m
    · exact hp
    · exact h.pl p (by simp [m])
theorem At.add {p : Addr} {o : HO} {mu : Cells} {H H' : Hp} (h : At mu H) (n : H p = none) (k : Same H H') (e : H' p = Option.some o) (hp : Pl o) : At ((p, o) :: mu) H' := by
  refine ⟨?_, fun q m => ?_, fun q m => ?_⟩
  · show (p :: keys mu).Nodup
    exact List.nodup_cons.mpr ⟨h.notin n, h.nd⟩
  · simp only [List.mem_cons] at m
    rcases m with rfl | m
    · exact e
    · exact k _ _ (h.at_ q m)
  · simp only [List.mem_cons] at m
    rcases m with rfl | m
    · exact hp
    · exact h.pl q m
/-- the cell at the head changes; all else stays -/
theorem At.chg {b : Addr} {o o' : HO} {mu : Cells} {H H' : Hp} (h : At ((b, o) :: mu) H) (e : H' b = Option.some o') (hp : Pl o') (k : Kp [b] H H') : At ((b, o') :: mu) H' := by
  refine ⟨h.nd, fun p m => ?_, fun p m => ?_⟩
  · simp only [List.mem_cons] at m
    rcases m with rfl | m
    · exact e
    · have : p.1 ≠ b := fun e => (List.nodup_cons.mp h.nd).1 (by rw [← e]; exact List.mem_map.mpr ⟨p, m, rfl⟩)
      exact k _ _ (by simpa using this) (h.at_ p (by simp [m]))
  · simp only [List.mem_cons] at m
    rcases m with rfl | m
    · exact hp
    · exact h.pl p (by simp [m])
/-! ### views -/
theorem vw_same {M M' : List Addr} {H H' : Hp} (h : ∀ b o, b ∉ M → H b = some o → b ∉ M' ∧ H' b = some o) : Same (wo H M) (wo H' M') := fun b o e => by
  obtain ⟨n, e⟩ := wo_some e
  obtain ⟨n2, e2⟩ := h b o n e
  rw [wo_out n2]; exact e2
theorem vw_mono {M : List Addr} {H H' : Hp} (k : Kp M H H') : Same (wo H M) (wo H' M) := vw_same fun b o n e => ⟨n, k b o n e⟩
theorem vw_up {M : List Addr} {H H' : Hp} (k : Same H H') : Same (wo H M) (wo H' M) := vw_same fun b o n e => ⟨n, k b o e⟩
theorem wo_le {M : List Addr} {H : Hp} : Same (wo H M) H := fun b o e => (wo_some e).2
theorem wo_new {M : List Addr} {H H' : Hp} {p : Addr} {o : HO} (hM : ∀ b ∈ M, H b ≠ none) (n : H p = none) (e : H' p = some o) : wo H' M p = some o := by
  rw [wo_out (fun m => hM p m n)]; exact e
theorem Same.tr {H H1 H2 : Hp} (a : Same H H1) (b : Same H1 H2) : Same H H2 := fun c o e => b c o (a c o e)
theorem Same.kp {H H1 : Hp} {S : List Addr} (a : Same H H1) : Kp S H H1 := fun c o _ e => a c o e
theorem ok_same {M : List Addr} {H H' : Hp} (hM : ∀ b ∈ M, H b ≠ none) (k : Same H H') : ∀ b ∈ M, H' b ≠ none := fun b m => by
  obtain ⟨o, e⟩ := Option.ne_none_iff_exists'.mp (hM b m)
  rw [k b o e]; simp
/-! ### tables of code -/
theorem tab_mono {P : Addr} {q : Str} {H H' : Hp} (h : LamX.TabS H P q) (k : ∀ b o, ¬ Pl o → H b = some o → H' b = some o) : LamX.TabS H' P q := by
  obtain ⟨ps, h1, h2, h3⟩ := h
  refine ⟨ps, k _ _ (by simp [Pl]) h1, h2, fun pos cv hc => ?_⟩
  obtain ⟨c, e1, e2⟩ := h3 pos cv hc
  exact ⟨c, e1, k _ _ (by simp [Pl, LamX.CodeO]) e2⟩
theorem tab_same {P : Addr} {q : Str} {H H' : Hp} (h : LamX.TabS H P q) (k : Same H H') : LamX.TabS H' P q := tab_mono h fun b o _ e => k b o e
theorem tab_kp {P : Addr} {q : Str} {S : List Addr} {H H' : Hp} (h : LamX.TabS H P q) (hS : ∀ b ∈ S, ∃ o, H b = some o ∧ Pl o) (k : Kp S H H') : LamX.TabS H' P q := tab_mono h fun b o n e => k b o (fun m => by
  obtain ⟨u, e2, p⟩ := hS b m
  rw [e] at e2; cases e2; exact n p) e
/-- a table is no cell -/
theorem tab_notin {P : Addr} {q : Str} {mu : Cells} {H : Hp} (h : LamX.TabS H P q) (a : At mu H) : P ∉ keys mu := fun m => by
  obtain ⟨ps, h1, _⟩ := h
  obtain ⟨o, e, p⟩ := a.some m
  rw [h1] at e; cases e; exact p
/-! ### shapes -/
abbrev nums (l : List Nat) : List Int := Kcs5Neutral.nums l
def IL (I : Hp) (a : Addr) (xs : List Int) : Prop := I a = some (.lst (xs.map V.int))
structure SecAt (A : Ad) (I : Hp) (a : Addr) (s : Kcs5.Section_) : Prop where
  ex : ∃ dx l t o, I a = some (.ins A.c_Section dx [("label", .ref l), ("text", .ref t), ("owners", .ref o)]) ∧ IL I l (nums s.label) ∧ IL I t (nums (s.text.map Prod.fst)) ∧ IL I o (nums (s.text.map Prod.snd))
theorem SecAt.mono {A : Ad} {I I' : Hp} {a : Addr} {s : Kcs5.Section_} (h : SecAt A I a s) (k : Same I I') : SecAt A I' a s := by
  obtain ⟨dx, l, t, o, h0, h1, h2, h3⟩ := h.ex
  exact ⟨dx, l, t, o, k _ _ h0, k _ _ h1, k _ _ h2, k _ _ h3⟩
def SecsAt (A : Ad) (I : Hp) (a : Addr) (l : Kcs5.Law) : Prop := ∃ as : List Addr, I a = some (.lst (as.map V.ref)) ∧ All2 (SecAt A I) as l
theorem secs_mono {A : Ad} {I I' : Hp} {as : List Addr} {l : Kcs5.Law} (h : All2 (SecAt A I) as l) (k : Same I I') : All2 (SecAt A I') as l := h.imp fun _ _ r => r.mono k
theorem SecsAt.mono {A : Ad} {I I' : Hp} {a : Addr} {l : Kcs5.Law} (h : SecsAt A I a l) (k : Same I I') : SecsAt A I' a l := by
  obtain ⟨as, h0, h1⟩ := h
  exact ⟨as, k _ _ h0, secs_mono h1 k⟩
theorem nums_inj {a b : List Nat} : nums a = nums b ↔ a = b := by
  constructor
  · intro h
    have := congrArg (List.map Int.toNat) h
    simpa [Kcs5Neutral.nums, List.map_map, Function.comp_def] using this
  · rintro rfl; rfl
@[simp] theorem nums_len {a : List Nat} : (nums a).length = a.length := by simp [Kcs5Neutral.nums]
end LD

namespace LD
open PySem PySem.Spec PyProof.Rows L2
/-! ### section.py -/
def secF (l t o : Addr) : List (Str × V) := [("label", .ref l), ("text", .ref t), ("owners", .ref o)]
def sp_Section_init (A : Ad) : Sp := fun vs H Q _ => ∃ r dx la ta oa, vs = [.ref r, .ref la, .ref ta, .ref oa] ∧ H r = some (.ins A.c_Section dx []) ∧ ∀ H', H' r = some (.ins A.c_Section dx (secF la ta oa)) → Kp [r] H H' → Q .non H'
theorem hid {α : Sort _} (p : α) : ∃ q, q = p := ⟨_, rfl⟩
theorem sz : sizeLine = 16777216 := rfl
/-- all that is in M is there -/
def Ok (M : List Addr) (H : Hp) : Prop := ∀ b ∈ M, H b ≠ none
theorem Ok.same {M : List Addr} {H H' : Hp} (h : Ok M H) (k : Same H H') : Ok M H' := ok_same h k
def sp_new_section (A : Ad) : Sp := fun vs H Q _ => ∃ (la ta : Addr) (n : Nat) (l t : List Nat) (M : List Addr), vs = [.ref la, .ref ta, .int n] ∧ Ok M H ∧ IL (wo H M) la (nums l) ∧ IL (wo H M) ta (nums t) ∧ t.length ≤ 5000 ∧
  ∀ H' p, Same H H' → SecAt A (wo H' M) p ⟨l, Kcs5.by_ n t⟩ → Q (.ref p) H'
def sp_place_of (K : PySem.W.Frag) (A : Ad) : Sp := fun vs H Q _ => ∃ (sa la : Addr) (ss : Kcs5.Law) (l : List Nat), vs = [.ref sa, .ref la] ∧ SecsAt A H sa ss ∧ IL H la (nums l) ∧
  (∀ H' k x, Same H H' → ss[k]? = some x → x.label = l → Q (.int (k : Nat)) H') ∧ (∀ H', Same H H' → Kcs5.has ss l = false → Q .non H')
def sp_places_in (K : PySem.W.Frag) (A : Ad) : Sp := fun vs H Q _ => ∃ (ta ra : Addr) (t r : List Nat), vs = [.ref ta, .ref ra] ∧ IL H ta (nums t) ∧ IL H ra (nums r) ∧ r ≠ [] ∧ t.length ≤ 5000 ∧ r.length ≤ 5000 ∧
  ∀ H' p, Same H H' → H p = none → IL H' p (nums (mPlaces t r)) → Q (.ref p) H'
def sp_exchange (K : PySem.W.Frag) (A : Ad) : Sp := fun vs H Q _ => ∃ (a pa ra : Addr) (s : Kcs5.Section_) (ps : List Nat) (size n : Nat) (row : List Nat) (M : List Addr), vs = [.ref a, .ref pa, .int (size : Nat), .ref ra, .int (n : Nat)] ∧ Ok M H ∧ SecAt A (wo H M) a s ∧ IL H pa (nums ps) ∧ IL H ra (nums row) ∧
  row.length ≤ 1100 ∧ (mEx s.text size (Kcs5.by_ n row) ps 0).length ≤ 100000 ∧
  ∀ H' p, Same H H' → SecAt A (wo H' M) p ⟨s.label, mEx s.text size (Kcs5.by_ n row) ps 0⟩ → Q (.ref p) H'
section
variable {K : PySem.W.Frag} {mg : Str → Option Value} {A : Ad}
theorem pure_Section_init (T : Txt K mg A) (vs : List V) (H : Hp) (Q : VK) (E : XK) (h : sp_Section_init A vs H Q E) : t_Section_init K A { nx := fun _ H' => Q .non H', rt := Q } (L2.start ["self", "label", "text", "owners"] vs) H := by
  obtain ⟨r, dx, la, ta, oa, rfl, hr, q⟩ := h
  simp [u_tSeq, t_Section_init, L2.start, hr, T.cl_Section, T.no_Section_label, T.no_Section_text, T.no_Section_owners]
  exact q _ upd_same (Kp.wr (by simp))
theorem mk_new {C : Addr} {H : Hp} {R : Addr → Addr → Hp → Prop} (h : ∀ x dx H2, H x = none → H2 x = some (.ins C dx []) → Same H H2 → R x dx H2) : ∀ x dx, H x = none → H dx = none → ¬ dx = x → R x dx (upd (upd H dx (.own x)) x (.ins C dx [])) := fun x dx n1 n2 n3 =>
  h x dx _ n1 upd_same fun b o e => by rw [upd_ne (ne_of_none e n1), upd_ne (ne_of_none e n2)]; exact e
theorem same_kp {H H1 H2 : Hp} {x : Addr} (n : H x = none) (a : Same H H1) (b : Kp [x] H1 H2) : Same H H2 := fun c o e => b c o (by simp; exact ne_of_none e n) (a c o e)
theorem mk_sec {la ta oa : Addr} {H : Hp} {Q : VK} {E : XK} (h : ∀ x dx H2, H x = none → H2 x = some (.ins A.c_Section dx (secF la ta oa)) → Same H H2 → Q (.ref x) H2) :
    ∀ x dx, H x = none → H dx = none → ¬ dx = x → sp_Section_init A [.ref x, .ref la, .ref ta, .ref oa] (upd (upd H dx (.own x)) x (.ins A.c_Section dx [])) (fun v H2 => v = .non ∧ Q (.ref x) H2) E :=
  mk_new (R := fun x dx H2 => sp_Section_init A [.ref x, .ref la, .ref ta, .ref oa] H2 (fun v H2 => v = .non ∧ Q (.ref x) H2) E) fun x dx H2 n1 e k => ⟨x, dx, la, ta, oa, rfl, e, fun H' e' k' => ⟨rfl, h x dx H' n1 e' (same_kp n1 k k')⟩⟩
theorem il_le {M : List Addr} {H : Hp} {a : Addr} {xs : List Int} (h : IL (wo H M) a xs) : H a = some (.lst (xs.map V.int)) := wo_le _ _ h
theorem rep_one {n : Nat} {x : V} : (List.replicate n [x]).flatten = List.replicate n x := by
  induction n with
  | zero => rfl
  | succ n ih => simp [List.replicate_succ, ih]
theorem nums_rep {n k : Nat} : (nums (List.replicate k n)).map V.int = List.replicate k (V.int (n : Nat)) := by simp [Kcs5Neutral.nums]
theorem pure_new_section (T : Txt K mg A) (vs : List V) (H : Hp) (Q : VK) (E : XK) (h : sp_new_section A vs H Q E) : t_new_section K A (sp_Section_init A) { nx := fun _ H' => Q .non H', rt := Q } (L2.start ["label", "text", "owner"] vs) H := by
  obtain ⟨la, ta, n, l, t, M, rfl, ok, hl, ht, hz, q⟩ := h
  simp [t_new_section, L2.start]
  refine ⟨(by show 1 ≤ sizeLine; decide), alloc_new fun p H1 n1 e1 k1 => ?_⟩
  refine len_of (k1 _ _ (il_le ht)) ?_
  simp [e1]
  refine ⟨by omega, by rw [sz]; omega, alloc_new fun o H2 n2 e2 k2 => ?_⟩
  refine mk_sec fun x dx H3 n3 e3 k3 => q H3 x (Same.tr (Same.tr k1 k2) k3) ⟨dx, la, ta, o, ?_, ?_, ?_, ?_⟩
  · exact wo_new ((ok.same k1).same k2) n3 e3
  · exact vw_up (Same.tr (Same.tr k1 k2) k3) _ _ hl
  · rw [by_fst]; exact vw_up (Same.tr (Same.tr k1 k2) k3) _ _ ht
  · rw [by_snd]
    refine vw_up k3 _ _ (wo_new (ok.same k1) n2 ?_)
    rw [e2, nums_rep]
theorem pure_place_of (T : Txt K mg A) (vs : List V) (H : Hp) (Q : VK) (E : XK) (h : sp_place_of K A vs H Q E) : t_place_of K A { nx := fun _ H' => Q .non H', rt := Q } (L2.start ["sections", "label", "place", "section"] vs) H := by
  obtain ⟨sa, la, ss, l, rfl, ⟨as, hs, hA⟩, hl, q1, q2⟩ := h
  rw [t_place_of, u_tSeq]
  simp only [L2.start]
  obtain ⟨Pv, hP⟩ := hid (fun (n : Nat) (σ : L2.St) (H' : Hp) => ∃ v w, σ = [some (.ref sa), some (.ref la), v, w] ∧ Same H H' ∧ ∀ x ∈ ss.take n, x.label ≠ l)
  refine for_enum (a := sa) (xs := as.map V.ref) Pv (fun R r => by simpa using r) (by rw [hP]; exact ⟨none, none, rfl, Same.refl _, by simp⟩) ?_ ?_ ?_
  · intro n σ H' hp
    rw [hP] at hp
    obtain ⟨v, w, rfl, k, _⟩ := hp
    exact SqL.of (k _ _ hs)
  · intro n x σ H' T' hx hp hT
    rw [hP] at hp
    obtain ⟨v, w, rfl, k, hn⟩ := hp
    rw [List.getElem?_map] at hx
    cases ea : as[n]? with
    | none => rw [ea] at hx; cases hx
    | some a =>
      rw [ea] at hx; cases hx
      obtain ⟨s, es, hS⟩ := hA.get ea
      obtain ⟨dx, l1, t1, o1, h0, h1, _, _⟩ := hS.ex
      have k2 : Same H (upd H' T' (.tup [.int (n : Nat), .ref a])) := Same.tr k fun b o e => (upd_ne (ne_of_none e hT)).trans e
      generalize upd H' T' (.tup [.int (n : Nat), .ref a]) = H2 at k2
      have h0' := k2 _ _ h0
      simp [h0', T.cl_Section, T.no_Section_label]
      refine eqd_ints (SqL.of (k2 _ _ h1)) (SqL.of (k2 _ _ hl)) ?_
      simp
      split
      · rename_i e
        exact q1 _ n s k2 es (nums_inj.mp e)
      · rename_i e
        rw [hP]
        refine ⟨_, _, rfl, k2, fun x hx => ?_⟩
        rw [List.take_add_one, es] at hx
        simp at hx
        rcases hx with hx | rfl
        · exact hn x hx
        · exact fun e2 => e (nums_inj.mpr e2)
  · intro σ H' hp
    rw [hP] at hp
    obtain ⟨v, w, rfl, k, hn⟩ := hp
    simp
    refine q2 H' k ?_
    rw [List.length_map, hA.len, List.take_length] at hn
    unfold Kcs5.has
    simp
    exact hn
theorem cut_nums {t : List Nat} {i j : Nat} : cutV ((nums t).map V.int) (some (i : Int)) (some (j : Int)) = (nums ((t.drop i).take (j - i))).map V.int := by
  unfold cutV
  simp only [HT.sIx_nat, List.length_map, nums_len]
  simp only [Kcs5Neutral.nums, List.map_take, List.map_drop]
  generalize hx : List.map V.int (List.map (fun x : Nat => (x : Int)) t) = xs
  have hl : xs.length = t.length := by rw [← hx]; simp
  rw [← hl]
  by_cases h : i ≤ xs.length
  · rw [Nat.min_eq_left h]
    by_cases h2 : j ≤ xs.length
    · rw [Nat.min_eq_left h2]
    · rw [show min j xs.length = xs.length from by omega]
      rw [List.take_of_length_le (i := xs.length - i) (by simp), List.take_of_length_le (i := j - i) (by simp; omega)]
  · rw [show min i xs.length = xs.length from by omega, List.drop_of_length_le (i := xs.length) (by omega), List.drop_of_length_le (i := i) (by omega)]
    simp
theorem cut_tail {t : List Nat} {i : Nat} : cutV ((nums t).map V.int) (some (i : Int)) none = (nums (t.drop i)).map V.int := by
  have h : cutV ((nums t).map V.int) (some (i : Int)) none = cutV ((nums t).map V.int) (some (i : Int)) (some (t.length : Int)) := by
    unfold cutV
    simp only [HT.sIx_nat, List.length_map, nums_len, Nat.min_self]
    simp [HT.sIx]
  rw [h, cut_nums, List.take_of_length_le (by simp)]
theorem nums_get {t : List Nat} {i : Nat} {x : Nat} (h : t[i]? = some x) : ((nums t).map V.int)[i]? = some (.int (x : Nat)) := by
  simp [Kcs5Neutral.nums, h]
theorem filter_succ {n : Nat} {p : Nat → Bool} : (List.range (n + 1)).filter p = (List.range n).filter p ++ if p n = true then [n] else [] := by
  rw [List.range_succ, List.filter_append]
  simp [List.filter_cons]
theorem nums_app {a b : List Nat} : nums (a ++ b) = nums a ++ nums b := by simp [Kcs5Neutral.nums]
theorem pure_places_in (T : Txt K mg A) (vs : List V) (H : Hp) (Q : VK) (E : XK) (h : sp_places_in K A vs H Q E) : t_places_in K A { nx := fun _ H' => Q .non H', rt := Q } (L2.start ["text", "row", "size", "found", "place"] vs) H := by
  obtain ⟨ta, ra, t, r, rfl, ht, hr, hne, h1, h2, q⟩ := h
  obtain ⟨r0, rs, rfl⟩ := List.exists_cons_of_ne_nil hne
  have h2' : rs.length ≤ 5000 := by simp at h2; omega
  rw [t_places_in, u_tSeq]
  simp [L2.start]
  refine len_of hr ?_
  rw [u_tSeq]
  simp
  refine alloc_new fun p H1 n1 e1 k1 => ?_
  rw [u_tSeq]
  have pt : ta ≠ p := ne_of_none ht n1
  have pr : ra ≠ p := ne_of_none hr n1
  obtain ⟨Pv, hP⟩ := hid (fun (i : Nat) (σ : L2.St) (H' : Hp) => ∃ v, σ = [some (.ref ta), some (.ref ra), some (.int ((rs.length + 1 : Nat) : Int)), some (.ref p), v] ∧ Kp [p] H1 H' ∧ H' p = some (.lst ((nums ((List.range i).filter fun k => (t.drop k).take (r0 :: rs).length == (r0 :: rs))).map V.int)))
  refine for_rng (n := (t.length : Int) - ((rs.length + 1 : Nat) : Int) + 1) Pv ?_ ?_ ?_ ?_ ?_ ?_
  · intro R hR
    simp
    refine len_of (k1 _ _ ht) ?_
    simpa using hR
  · omega
  · omega
  · rw [hP]; exact ⟨none, by simp, Kp.refl, by simpa [Kcs5Neutral.nums] using e1⟩
  · intro i σ H' hi hp
    rw [hP] at hp
    obtain ⟨v, rfl, k, e⟩ := hp
    have ht' : H' ta = some (.lst ((nums t).map V.int)) := k _ _ (by simpa using pt) (k1 _ _ ht)
    have hr' : H' ra = some (.lst ((nums (r0 :: rs)).map V.int)) := k _ _ (by simpa using pr) (k1 _ _ hr)
    have hi2 : i < t.length := by omega
    obtain ⟨x, hx⟩ : ∃ x, t[i]? = some x := ⟨_, List.getElem?_eq_getElem hi2⟩
    simp
    refine ix_of (SqL.of ht') (nums_get hx) ?_
    refine ix_of (i := 0) (SqL.of hr') (nums_get (t := r0 :: rs) rfl) ?_
    simp
    have hlen : ((List.range i).filter fun k => (t.drop k).take (r0 :: rs).length == (r0 :: rs)).length ≤ i := by
      have := List.length_filter_le (fun k => (t.drop k).take (r0 :: rs).length == (r0 :: rs)) (List.range i)
      simpa using this
    have hd0 : t.drop i = x :: t.drop (i + 1) := by
      obtain ⟨h3, h4⟩ := List.getElem?_eq_some_iff.mp hx
      rw [List.drop_eq_getElem_cons h3, h4]
    split
    · rename_i ex
      refine sl_of (SqL.of ht') (alloc_new fun p2 H2 n2 e2 k2 => ?_)
      have c1 : (cutV ((nums t).map V.int) (some (i : Int)) (some ((i : Int) + ((rs.length : Int) + 1)))) = (nums ((t.drop i).take (rs.length + 1))).map V.int := by
        have := @cut_nums t i (i + (rs.length + 1))
        rw [show i + (rs.length + 1) - i = rs.length + 1 from by omega] at this
        rw [← this]
        simp
      rw [c1] at e2
      refine eqd_ints (SqL.of e2) (SqL.of (k2 _ _ hr')) ?_
      simp
      have ke : Kp [p] H1 H2 := k.trans (Same.kp k2)
      split
      · rename_i e3
        have e3 := nums_inj.mp e3
        simp [k2 _ _ e]
        refine ⟨.inl ⟨rfl, _, SqL.of (k2 _ _ e)⟩, by simp at hlen; rw [sz]; omega, ?_⟩
        rw [hP]
        refine ⟨some (.int (i : Nat)), by simp, ke.trans (Kp.wr (by simp)), ?_⟩
        rw [upd_same, filter_succ]
        rw [show (t.drop i).take (r0 :: rs).length = r0 :: rs from by simpa using e3]
        simp [nums_app, Kcs5Neutral.nums]
      · rename_i e3
        rw [hP]
        refine ⟨some (.int (i : Nat)), by simp, ke, ?_⟩
        rw [k2 _ _ e, filter_succ]
        rw [show ((t.drop i).take (r0 :: rs).length == r0 :: rs) = false from by
          rw [beq_eq_false_iff_ne]; intro z; exact e3 (nums_inj.mpr (by simpa using z))]
        simp
    · rename_i ex
      rw [hP]
      refine ⟨some (.int (i : Nat)), by simp, k, ?_⟩
      rw [e, filter_succ]
      rw [show ((t.drop i).take (r0 :: rs).length == r0 :: rs) = false from by
        rw [beq_eq_false_iff_ne, hd0]; intro z; simp at z; exact ex (by omega)]
      simp
  · intro σ H' hp
    rw [hP] at hp
    obtain ⟨v, rfl, k, e⟩ := hp
    simp
    refine q H' p (fun b o eb => k b o (by simp; exact ne_of_none eb n1) (k1 _ _ eb)) n1 ?_
    unfold IL
    rw [e]
    unfold mPlaces
    rw [show ((t.length : Int) - ((rs.length + 1 : Nat) : Int) + 1).toNat = t.length + 1 - (r0 :: rs).length from by simp; omega]
end
end LD

namespace LD
open PySem PySem.Spec PyProof.Rows L2
section
variable {K : PySem.W.Frag} {mg : Str → Option Value} {A : Ad}
theorem nums_map {l : List Nat} {i : Nat} {y : V} (h : ((nums l).map V.int)[i]? = some y) : ∃ x, l[i]? = some x ∧ y = V.int (x : Nat) := by
  obtain ⟨z, hz, rfl⟩ := map_some h
  unfold nums Kcs5Neutral.nums at hz
  rw [List.getElem?_map] at hz
  cases e : l[i]? with
  | none => rw [e] at hz; cases hz
  | some x => rw [e] at hz; cases hz; exact ⟨x, rfl, rfl⟩
theorem drop_get {α : Type} {l : List α} {i : Nat} {x : α} (h : l[i]? = some x) : l.drop i = x :: l.drop (i + 1) := by
  obtain ⟨h3, h4⟩ := List.getElem?_eq_some_iff.mp h
  rw [List.drop_eq_getElem_cons h3, h4]
theorem lst_nums {l : List Nat} {xs ys : List Nat} : (nums xs).map V.int ++ (nums ys).map V.int = (nums (xs ++ ys)).map V.int := by
  rw [nums_app, List.map_append]
/-- what is made so far is no longer than all -/
theorem pre_len {α : Type} {a b c : List α} {n : Nat} (h : a = b ++ c) (hn : a.length ≤ n) : b.length ≤ n := by
  rw [h, List.length_append] at hn; omega
theorem pure_exchange (T : Txt K mg A) (vs : List V) (H : Hp) (Q : VK) (E : XK) (h : sp_exchange K A vs H Q E) :
    t_exchange K A (sp_Section_init A) { nx := fun _ H' => Q .non H', rt := Q } (L2.start ["section", "places", "size", "row", "owner", "text", "owners", "done", "place"] vs) H := by
  obtain ⟨a, pa, ra, s, ps, size, n, row, M, rfl, ok, hS, hp, hr, hb, hz, q⟩ := h
  obtain ⟨dx, l, t, o, h0, h1, h2, h3⟩ := hS.ex
  have h0' := wo_le _ _ h0
  have h2' := wo_le _ _ h2
  have h3' := wo_le _ _ h3
  rw [t_exchange, u_tSeq]
  simp [L2.start]
  refine alloc_new fun p1 H1 n1 e1 k1 => ?_
  rw [u_tSeq]
  simp
  refine alloc_new fun p2 H2 n2 e2 k2 => ?_
  rw [u_tSeq]
  simp
  have k12 := Same.tr k1 k2
  have e1' := k2 _ _ e1
  have n2' : H p2 = none := Kp.none (S := []) (Same.kp k1) (by simp) n2
  have p12 : p1 ≠ p2 := ne_of_none e1 n2
  rw [u_tSeq]
  have un : ∀ {b : Addr} {u : HO}, H b = some u → b ≠ p1 ∧ b ≠ p2 := fun e => ⟨ne_of_none e n1, ne_of_none e n2'⟩
  obtain ⟨Pv, hP⟩ := hid (fun (i : Nat) (σ : L2.St) (H' : Hp) => ∃ (acc : Kcs5.Brought) (d : Nat) (v : Option V), σ = [some (.ref a), some (.ref pa), some (.int (size : Nat)), some (.ref ra), some (.int (n : Nat)), some (.ref p1), some (.ref p2), some (.int (d : Nat)), v] ∧
    Kp [p1, p2] H2 H' ∧ H' p1 = some (.lst ((nums (acc.map Prod.fst)).map V.int)) ∧ H' p2 = some (.lst ((nums (acc.map Prod.snd)).map V.int)) ∧ mEx s.text size (Kcs5.by_ n row) ps 0 = acc ++ mEx s.text size (Kcs5.by_ n row) (ps.drop i) d)
  refine for_seq (a := pa) (xs := (nums ps).map V.int) Pv (fun R r => by simpa using r) (by rw [hP]; exact ⟨[], 0, none, by simp, Kp.refl, by simpa [Kcs5Neutral.nums] using e1', by simpa [Kcs5Neutral.nums] using e2, by simp⟩) ?_ ?_ ?_
  · intro i σ H' hp'
    rw [hP] at hp'
    obtain ⟨acc, d, v, rfl, k, _, _, _⟩ := hp'
    have := un hp
    exact SqL.of (k _ _ (by simp [this.1, this.2]) (k12 _ _ hp))
  · intro i x σ H' hx hp'
    rw [hP] at hp'
    obtain ⟨acc, d, v, rfl, k, f1, f2, f3⟩ := hp'
    obtain ⟨p, hpx, rfl⟩ := nums_map hx
    have kk : ∀ {b : Addr} {u : HO}, H b = some u → H' b = some u := fun {b u} e => k _ _ (by have := un e; simp [this.1, this.2]) (k12 _ _ e)
    have al := pre_len f3 hz
    rw [drop_get hpx] at f3
    simp only [mEx] at f3
    have al2 : (acc ++ (s.text.drop d).take (p - d)).length ≤ 100000 := pre_len (c := Kcs5.by_ n row ++ mEx s.text size (Kcs5.by_ n row) (ps.drop (i + 1)) (p + size)) (by rw [f3]; simp) hz
    simp at al2
    rw [u_gName, u_tSeq]
    simp [f1, kk h0', T.cl_Section, T.no_Section_text]
    refine ⟨.inl ⟨rfl, _, SqL.of f1⟩, sl_of (SqL.of (kk h2')) (alloc_new fun b1 G1 m1 g1 j1 => ?_)⟩
    rw [cut_nums] at g1
    simp [j1 _ _ f1, g1]
    refine ⟨by rw [sz]; omega, ?_⟩
    generalize hG2 : upd G1 p1 _ = G2
    have ga : G2 p1 = some (.lst ((nums ((acc ++ (s.text.drop d).take (p - d)).map Prod.fst)).map V.int)) := by
      rw [← hG2, upd_same]; simp [nums_app, Kcs5Neutral.nums, List.map_take, List.map_drop]
    have gk : Kp [p1, p2] H' G2 := by rw [← hG2]; exact (Same.kp j1).trans (Kp.wr (by simp))
    have gb : G2 p2 = some (.lst ((nums (acc.map Prod.snd)).map V.int)) := by rw [← hG2, upd_ne p12.symm]; exact j1 _ _ f2
    clear hG2 g1 j1
    have kg : ∀ {b : Addr} {u : HO}, H b = some u → G2 b = some u := fun {b u} e => gk _ _ (by have := un e; simp [this.1, this.2]) (kk e)
    rw [u_tSeq]
    simp [ga, kg hr]
    refine ⟨.inl ⟨rfl, _, SqL.of ga⟩, by rw [sz]; omega, ?_⟩
    generalize hG3 : upd G2 p1 _ = G3
    have gc : G3 p1 = some (.lst ((nums ((acc ++ ((s.text.drop d).take (p - d) ++ Kcs5.by_ n row)).map Prod.fst)).map V.int)) := by
      rw [← hG3, upd_same]; simp [nums_app, Kcs5Neutral.nums, List.map_take, List.map_drop, Kcs5.by_]
    have gk3 : Kp [p1, p2] H' G3 := by rw [← hG3]; exact gk.trans (Kp.wr (by simp))
    have gd : G3 p2 = some (.lst ((nums (acc.map Prod.snd)).map V.int)) := by rw [← hG3, upd_ne p12.symm]; exact gb
    clear hG3 gk kg ga gb
    have kg : ∀ {b : Addr} {u : HO}, H b = some u → G3 b = some u := fun {b u} e => gk3 _ _ (by have := un e; simp [this.1, this.2]) (kk e)
    rw [u_tSeq]
    simp [gd, kg h0', T.cl_Section, T.no_Section_owners]
    refine ⟨.inl ⟨rfl, _, SqL.of gd⟩, sl_of (SqL.of (kg h3')) (alloc_new fun b1 G4 m1 g1 j1 => ?_)⟩
    rw [cut_nums] at g1
    simp [j1 _ _ gd, g1]
    refine ⟨by rw [sz]; omega, ?_⟩
    generalize hG5 : upd G4 p2 _ = G5
    have ga : G5 p2 = some (.lst ((nums ((acc ++ (s.text.drop d).take (p - d)).map Prod.snd)).map V.int)) := by
      rw [← hG5, upd_same]; simp [nums_app, Kcs5Neutral.nums, List.map_take, List.map_drop]
    have gk5 : Kp [p1, p2] H' G5 := by rw [← hG5]; exact (gk3.trans (Same.kp j1)).trans (Kp.wr (by simp))
    have gb := j1 _ _ gc
    have gb : G5 p1 = some (.lst ((nums ((acc ++ ((s.text.drop d).take (p - d) ++ Kcs5.by_ n row)).map Prod.fst)).map V.int)) := by rw [← hG5, upd_ne p12]; exact j1 _ _ gc
    clear hG5 g1 j1 gk3 kg gc gd
    have kg : ∀ {b : Addr} {u : HO}, H b = some u → G5 b = some u := fun {b u} e => gk5 _ _ (by have := un e; simp [this.1, this.2]) (kk e)
    rw [u_tSeq]
    simp
    refine ⟨.inl ⟨rfl, _, SqL.of ga⟩, (by show 1 ≤ sizeLine; decide), alloc_new fun b2 G6 m2 g2 j2 => ?_⟩
    refine len_of (j2 _ _ (kg hr)) ?_
    simp [g2]
    refine ⟨by omega, by rw [sz]; omega, alloc_new fun b3 G7 m3 g3 j3 => ?_⟩
    simp [g3, j3 _ _ (j2 _ _ ga)]
    refine ⟨by rw [sz]; omega, ?_⟩
    rw [hP]
    refine ⟨acc ++ ((s.text.drop d).take (p - d) ++ Kcs5.by_ n row), p + size, some (.int (p : Nat)), by simp, ?_, ?_, ?_, ?_⟩
    · exact ((k.trans gk5).trans (Same.kp (Same.tr j2 j3))).trans (Kp.wr (by simp))
    · rw [upd_ne p12]; exact j3 _ _ (j2 _ _ gb)
    · rw [upd_same]
      have e9 := @nums_rep n row.length
      simp only [List.map_append, nums_app, by_snd]
      rw [e9]
      simp
    · rw [f3]; simp
  · intro σ H' hp'
    rw [hP] at hp'
    obtain ⟨acc, d, v, rfl, k, f1, f2, f3⟩ := hp'
    have kk : ∀ {b : Addr} {u : HO}, H b = some u → H' b = some u := fun {b u} e => k _ _ (by have := un e; simp [this.1, this.2]) (k12 _ _ e)
    have al := pre_len f3 hz
    have hlen : ps.drop ((nums ps).map V.int).length = [] := by simp
    rw [hlen] at f3
    simp only [mEx] at f3
    have al2 : (acc ++ s.text.drop d).length ≤ 100000 := by rw [← f3]; exact hz
    simp at al2
    dsimp only
    rw [u_tSeq]
    simp [f1, kk h0', T.cl_Section, T.no_Section_text]
    refine ⟨.inl ⟨rfl, _, SqL.of f1⟩, sl_of (SqL.of (kk h2')) (alloc_new fun b1 G1 m1 g1 j1 => ?_)⟩
    rw [cut_tail] at g1
    simp [j1 _ _ f1, g1]
    refine ⟨by rw [sz]; omega, ?_⟩
    generalize hG2 : upd G1 p1 _ = G2
    have ga : G2 p1 = some (.lst ((nums ((acc ++ s.text.drop d).map Prod.fst)).map V.int)) := by
      rw [← hG2, upd_same]; simp [nums_app, Kcs5Neutral.nums, List.map_take, List.map_drop]
    have gk : Kp [p1, p2] H' G2 := by rw [← hG2]; exact (Same.kp j1).trans (Kp.wr (by simp))
    have gb : G2 p2 = some (.lst ((nums (acc.map Prod.snd)).map V.int)) := by rw [← hG2, upd_ne p12.symm]; exact j1 _ _ f2
    clear hG2 g1 j1
    have kg : ∀ {b : Addr} {u : HO}, H b = some u → G2 b = some u := fun {b u} e => gk _ _ (by have := un e; simp [this.1, this.2]) (kk e)
    rw [u_tSeq]
    simp [-upd_at, gb, kg h0', T.cl_Section, T.no_Section_owners]
    refine ⟨.inl ⟨rfl, _, SqL.of gb⟩, sl_of (SqL.of (kg h3')) (alloc_new fun b2 G3 m1 g1 j1 => ?_)⟩
    rw [cut_tail] at g1
    simp [-upd_at, j1 _ _ gb, g1]
    refine ⟨by rw [sz]; omega, ?_⟩
    generalize hG4 : upd G3 p2 _ = G4
    have gc : G4 p2 = some (.lst ((nums ((acc ++ s.text.drop d).map Prod.snd)).map V.int)) := by
      rw [← hG4, upd_same]; simp [nums_app, Kcs5Neutral.nums, List.map_take, List.map_drop]
    have gk4 : Kp [p1, p2] H' G4 := by rw [← hG4]; exact (gk.trans (Same.kp j1)).trans (Kp.wr (by simp))
    have gd : G4 p1 = some (.lst ((nums ((acc ++ s.text.drop d).map Prod.fst)).map V.int)) := by rw [← hG4, upd_ne p12]; exact j1 _ _ ga
    clear hG4 g1 j1 gk kg
    have kg : ∀ {b : Addr} {u : HO}, H b = some u → G4 b = some u := fun {b u} e => gk4 _ _ (by have := un e; simp [this.1, this.2]) (kk e)
    simp [kg h0', T.cl_Section, T.no_Section_label]
    refine mk_sec fun x dx' H5 n5 e5 k5 => ?_
    have k45 : Same H H5 := Same.tr (fun b u e => kg e) k5
    refine q H5 x k45 ⟨dx', l, p1, p2, ?_, ?_, ?_, ?_⟩
    · exact wo_new (ok.same (fun b u e => kg e)) n5 e5
    · exact vw_up k45 _ _ h1
    · refine wo_new ok n1 ?_
      rw [k5 _ _ gd, f3]
    · refine wo_new ok n2' ?_
      rw [k5 _ _ gc, f3]
end
end LD

namespace LD
open PySem PySem.Spec PyProof.Rows L2
theorem mLB_eq (b : Nat) : mLB (b : Int) = Kcs5.labelByte b := by
  unfold mLB mTB Kcs5.labelByte
  rw [Bool.eq_iff_iff]
  simp
  omega
theorem mTB_eq (b : Nat) : mTB (b : Int) = (decide (32 ≤ b) && decide (b ≤ 126)) := by
  unfold mTB
  rw [Bool.eq_iff_iff]
  simp
  omega
theorem mLabel_eq (l : List Nat) : mLabel (nums l) = Kcs5.isLabel l := by
  unfold mLabel Kcs5.isLabel
  have : (nums l).all mLB = l.all Kcs5.labelByte := by
    simp only [Kcs5Neutral.nums, List.all_map]
    apply congrArg (fun f => l.all f)
    funext b; exact mLB_eq b
  rw [this, nums_len, ← Bool.and_assoc]
  congr 2
  rw [Bool.eq_iff_iff, Bool.not_eq_true', decide_eq_false_iff_not, decide_eq_true_iff]
  omega
theorem mText_eq (l : List Nat) : mText (nums l) = Kcs5.isText l := by
  unfold mText Kcs5.isText
  have : (nums l).all mTB = l.all fun b => decide (32 ≤ b) && decide (b ≤ 126) := by
    simp only [Kcs5Neutral.nums, List.all_map]
    apply congrArg (fun f => l.all f)
    funext b; exact mTB_eq b
  rw [this, nums_len]
  rfl
theorem followed_len {n : Nat} {old new : Kcs5.Bytes} : ∀ (t : Kcs5.Brought) (k : Nat), (Kcs5.followed n old new k t).length ≤ t.length * (1 + new.length)
  | [], k => by cases k <;> simp [Kcs5.followed]
  | x :: t, k + 1 => by
    have := @followed_len n old new t k
    unfold Kcs5.followed
    simp only [List.length_cons, Nat.succ_mul]
    omega
  | x :: t, 0 => by
    unfold Kcs5.followed
    split
    · have := @followed_len n old new t old.length
      simp only [List.length_cons, List.length_append, by_len, Nat.succ_mul]
      omega
    · have := @followed_len n old new t 0
      simp only [List.length_cons, Nat.succ_mul]
      omega
theorem isLabel_len {l : List Nat} (h : Kcs5.isLabel l = true) : l.length ≤ 16 := by
  unfold Kcs5.isLabel at h
  simp [Kcs5.LABEL] at h
  exact of_decide_eq_true h.1.2
def sp_follow_label (A : Ad) : Sp := fun vs H Q _ => ∃ (a la ta : Addr) (s : Kcs5.Section_) (l to : List Nat) (n : Nat) (M : List Addr), vs = [.ref a, .ref la, .ref ta, .int (n : Nat)] ∧ Ok M H ∧ SecAt A (wo H M) a s ∧ IL H la (nums l) ∧ IL H ta (nums to) ∧ Kcs5.isLabel l = true ∧ to.length ≤ 16 ∧ s.text.length ≤ 4096 ∧
  ∀ H' p, Same H H' → SecAt A (wo H' M) p ⟨s.label, Kcs5.followed n l to 0 s.text⟩ → Q (.ref p) H'
def sp_set_section (A : Ad) : Sp := fun vs H Q _ => ∃ (sa a : Addr) (ss : Kcs5.Law) (k : Nat) (x : Kcs5.Section_) (M : List Addr), vs = [.ref sa, .int (k : Nat), .ref a] ∧ Ok M H ∧ SecsAt A (wo H M) sa ss ∧ SecAt A (wo H M) a x ∧ k < ss.length ∧ ss.length ≤ 100 ∧
  ∀ H' p, Same H H' → SecsAt A (wo H' M) p (ss.set k x) → Q (.ref p) H'
def sp_is_short (A : Ad) : Sp := fun vs H Q _ => ∃ (a : Addr) (s : Kcs5.Section_), vs = [.ref a] ∧ SecAt A H a s ∧ Q (.bl (decide (s.text.length ≤ 4096))) H
def sp_with_size : Sp := fun vs H Q _ => ∃ (a : Addr) (l : List Nat), vs = [.ref a] ∧ IL H a (nums l) ∧ l.length ≤ 5000 ∧ ∀ H' p, Same H H' → H p = none → IL H' p (Kcs5Neutral.whole l) → Q (.ref p) H'
def sp_find_section (A : Ad) : Sp := fun vs H Q _ => ∃ (sa la : Addr) (ss : Kcs5.Law) (l : List Nat) (M : List Addr), vs = [.ref sa, .ref la] ∧ SecsAt A (wo H M) sa ss ∧ IL H la (nums l) ∧
  (∀ H' a (k : Nat) (x : Kcs5.Section_), Same H H' → ss[k]? = some x → x.label = l → SecAt A (wo H' M) a x → Q (.ref a) H') ∧ (∀ H', Same H H' → Kcs5.has ss l = false → Q .non H')
def sp_find_text (A : Ad) : Sp := fun vs H Q _ => ∃ (sa la : Addr) (ss : Kcs5.Law) (l : List Nat) (M : List Addr), vs = [.ref sa, .ref la] ∧ SecsAt A (wo H M) sa ss ∧ IL H la (nums l) ∧
  (∀ H' t (k : Nat) (x : Kcs5.Section_), Same H H' → ss[k]? = some x → x.label = l → IL (wo H' M) t (nums (x.text.map Prod.fst)) → Q (.ref t) H') ∧ (∀ H', Same H H' → Kcs5.has ss l = false → Q .non H')
def flat2 (l : List (Nat × Nat)) : List Int := l.flatMap fun x => [(x.1 : Int), (x.2 : Int)]
theorem flat2_len : ∀ l : List (Nat × Nat), (flat2 l).length = 2 * l.length
  | [] => rfl
  | x :: r => by
    have ih := flat2_len r
    simp [flat2] at ih ⊢; omega
def sp_rows_of : Sp := fun vs H Q _ => ∃ (a : Addr) (o : List Nat), vs = [.ref a] ∧ IL H a (nums o) ∧ o.length ≤ 5000 ∧ ∀ H' p, Same H H' → H p = none → IL H' p (flat2 (mRows 0 o)) → Q (.ref p) H'
section
variable {K : PySem.W.Frag} {mg : Str → Option Value} {A : Ad}
theorem cutV_take {xs : List V} {k : Nat} : cutV xs none (some (k : Int)) = xs.take k := by
  unfold cutV
  rw [HT.sIx_nat, HT.sIx_none, List.drop_zero, Nat.sub_zero]
  by_cases h : k ≤ xs.length
  · rw [Nat.min_eq_left h]
  · rw [Nat.min_eq_right (by omega), List.take_of_length_le (Nat.le_refl _), List.take_of_length_le (by omega)]
theorem cutV_drop {xs : List V} {k : Nat} : cutV xs (some (k : Int)) none = xs.drop k := by
  unfold cutV
  rw [HT.sIx_nat, HT.sIx_none]
  by_cases h : k ≤ xs.length
  · rw [Nat.min_eq_left h, List.take_of_length_le (by simp)]
  · rw [Nat.min_eq_right (by omega), List.drop_of_length_le (Nat.le_refl _), List.drop_of_length_le (by omega)]
    simp
theorem pure_is_short (T : Txt K mg A) (vs : List V) (H : Hp) (Q : VK) (E : XK) (h : sp_is_short A vs H Q E) : t_is_short K A { nx := fun _ H' => Q .non H', rt := Q } (L2.start ["section"] vs) H := by
  obtain ⟨a, s, rfl, hS, q⟩ := h
  obtain ⟨dx, l, t, o, h0, h1, h2, h3⟩ := hS.ex
  simp [t_is_short, L2.start, h0, T.cl_Section, T.no_Section_text]
  refine len_of h2 ?_
  simp
  have e : decide ((s.text.length : Int) ≤ 4096) = decide (s.text.length ≤ 4096) := by rw [decide_eq_decide]; omega
  rw [e]; exact q
theorem pure_set_section (T : Txt K mg A) (vs : List V) (H : Hp) (Q : VK) (E : XK) (h : sp_set_section A vs H Q E) : t_set_section K A { nx := fun _ H' => Q .non H', rt := Q } (L2.start ["sections", "place", "section"] vs) H := by
  obtain ⟨sa, a, ss, k, x, M, rfl, ok, ⟨as, hs, hA⟩, hx, hk, hz, q⟩ := h
  have hs' := wo_le _ _ hs
  have hl := hA.len
  simp [t_set_section, L2.start]
  refine sl_of (SqL.of hs') (alloc_new fun p1 H1 n1 e1 k1 => ?_)
  rw [cutV_take] at e1
  refine ⟨(by show 1 ≤ sizeLine; decide), alloc_new fun p2 H2 n2 e2 k2 => ?_⟩
  simp [k2 _ _ e1, e2]
  refine ⟨by rw [sz]; omega, alloc_new fun p3 H3 n3 e3 k3 => ?_⟩
  have k13 := Same.tr k1 (Same.tr k2 k3)
  refine sl_of (SqL.of (k13 _ _ hs')) (alloc_new fun p4 H4 n4 e4 k4 => ?_)
  rw [show ((k : Int) + 1) = ((k + 1 : Nat) : Int) from by omega, cutV_drop] at e4
  simp [k4 _ _ e3, e4]
  refine ⟨by rw [sz]; omega, alloc_new fun p5 H5 n5 e5 k5 => ?_⟩
  have k15 := Same.tr k13 (Same.tr k4 k5)
  refine q H5 p5 k15 ⟨as.take k ++ a :: as.drop (k + 1), ?_, ?_⟩
  · refine wo_new (ok.same (Same.tr k13 k4)) n5 ?_
    rw [e5]; simp
  · rw [List.set_eq_take_append_cons_drop, if_pos hk]
    have hA' := secs_mono hA (vw_up k15 (M := M))
    exact (hA'.take k).app (.cons (hx.mono (vw_up k15)) (hA'.drop (k + 1)))
theorem pure_with_size (T : Txt K mg A) (vs : List V) (H : Hp) (Q : VK) (E : XK) (h : sp_with_size vs H Q E) : t_with_size K A { nx := fun _ H' => Q .non H', rt := Q } (L2.start ["row"] vs) H := by
  obtain ⟨a, l, rfl, ha, hz, q⟩ := h
  simp [t_with_size, L2.start]
  refine len_of ha ?_
  refine ⟨(by show 1 ≤ sizeLine; decide), alloc_new fun p1 H1 n1 e1 k1 => ?_⟩
  have ha' := k1 _ _ ha
  simp [e1, ha']
  refine ⟨by rw [sz]; omega, alloc_new fun p2 H2 n2 e2 k2 => ?_⟩
  refine q H2 p2 (Same.tr k1 k2) (Kp.none (S := []) (Same.kp k1) (by simp) n2) ?_
  unfold IL
  rw [e2]
  simp [Kcs5Neutral.whole]
theorem pure_find_section (T : Txt K mg A) (vs : List V) (H : Hp) (Q : VK) (E : XK) (h : sp_find_section A vs H Q E) : t_find_section K A (sp_place_of K A) { nx := fun _ H' => Q .non H', rt := Q } (L2.start ["sections", "label", "place"] vs) H := by
  obtain ⟨sa, la, ss, l, M, rfl, hS, hl, q1, q2⟩ := h
  have hS' := hS
  obtain ⟨as, hs, hA⟩ := hS'
  rw [t_find_section, u_tSeq]
  simp [L2.start]
  refine ⟨sa, la, ss, l, rfl, hS.mono wo_le, hl, fun H' k x k1 ex el => ?_, fun H' k1 hn => ?_⟩
  · simp
    obtain ⟨a, ea, hx⟩ := hA.get' ex
    refine ix_of (SqL.of (k1 _ _ (wo_le _ _ hs))) (by rw [List.getElem?_map, ea]; rfl) ?_
    exact q1 H' a k x k1 ex el (hx.mono (vw_up k1))
  · simp
    exact q2 H' k1 hn
theorem pure_find_text (T : Txt K mg A) (vs : List V) (H : Hp) (Q : VK) (E : XK) (h : sp_find_text A vs H Q E) : t_find_text K A (sp_find_section A) { nx := fun _ H' => Q .non H', rt := Q } (L2.start ["sections", "label", "section"] vs) H := by
  obtain ⟨sa, la, ss, l, M, rfl, hS, hl, q1, q2⟩ := h
  rw [t_find_text, u_tSeq]
  simp [L2.start]
  refine ⟨sa, la, ss, l, M, rfl, hS, hl, fun H' a k x k1 ex el hx => ?_, fun H' k1 hn => ?_⟩
  · obtain ⟨dx, l1, t1, o1, h0, h1, h2, h3⟩ := hx.ex
    simp [wo_le _ _ h0, T.cl_Section, T.no_Section_text]
    exact q1 H' t1 k x k1 ex el h2
  · simp
    exact q2 H' k1 hn
theorem pure_follow_label (T : Txt K mg A) (vs : List V) (H : Hp) (Q : VK) (E : XK) (h : sp_follow_label A vs H Q E) : t_follow_label K A (sp_exchange K A) (sp_places_in K A) { nx := fun _ H' => Q .non H', rt := Q } (L2.start ["section", "label", "to", "owner", "places", "place"] vs) H := by
  obtain ⟨a, la, ta, s, l, to, n, M, rfl, ok, hS, hl, hto, hlab, hz, hz2, q⟩ := h
  obtain ⟨dx, l1, t1, o1, h0, h1, h2, h3⟩ := hS.ex
  have l16 := isLabel_len hlab
  rw [t_follow_label, u_tSeq]
  simp [L2.start, wo_le _ _ h0, T.cl_Section, T.no_Section_text]
  refine ⟨(by show 1 ≤ sizeLine; decide), alloc_new fun p1 H1 n1 e1 k1 => ?_⟩
  have hl' := k1 _ _ hl
  simp [e1, hl']
  refine ⟨by rw [sz]; omega, alloc_new fun p2 H2 n2 e2 k2 => ?_⟩
  refine ⟨(by show 1 ≤ sizeLine; decide), alloc_new fun p3 H3 n3 e3 k3 => ?_⟩
  simp [k3 _ _ e2, e3]
  refine ⟨by rw [sz]; omega, alloc_new fun p4 H4 n4 e4 k4 => ?_⟩
  have k14 := Same.tr k1 (Same.tr k2 (Same.tr k3 k4))
  refine ⟨t1, p4, s.text.map Prod.fst, [91] ++ l ++ [93], rfl, k14 _ _ (wo_le _ _ h2), ?_, by simp, by simp; omega, by simp; omega, fun H5 p5 k5 n5 e5 => ?_⟩
  · unfold IL
    rw [e4]
    simp [Kcs5Neutral.nums]
  have k15 := Same.tr k14 k5
  have fe := followed_mEx (n := n) (new := to) hlab s.text
  have e6 : Kcs5.bytesOf s.text = s.text.map Prod.fst := rfl
  rw [e6] at fe
  generalize hps : mPlaces (s.text.map Prod.fst) ([91] ++ l ++ [93]) = ps at *
  dsimp only
  rw [u_tSeq]
  simp
  refine len_of e5 ?_
  simp
  split
  · rename_i hemp
    subst hemp
    refine q H5 a k15 ?_
    rw [fe]
    simp only [List.map_nil, mEx, List.drop_zero]
    exact hS.mono (vw_up k15)
  · rename_i hne
    have bp : ps.length ≤ 5000 := by
      rw [← hps]
      unfold mPlaces
      refine Nat.le_trans (List.length_filter_le _ _) ?_
      simp; omega
    refine lc_pure (a := p5) (xs := (nums ps).map V.int) (fun _ => true) (fun v => match v with | .int i => .int (i + 1) | w => w) (fun R r => by simpa using r) (SqL.of e5) (by simp; rw [sz]; omega) (fun x _ H' R _ r => r) ?_ ?_
    · intro x hx _ H' R _ r
      simp [Kcs5Neutral.nums] at hx
      obtain ⟨y, hy, rfl⟩ := hx
      simpa using r
    · refine alloc_new fun p6 H6 n6 e6 k6 => ?_
      have k16 := Same.tr k15 k6
      have e7 : IL H6 p6 (nums (ps.map (· + 1))) := by
        unfold IL
        rw [e6]
        congr 2
        rw [List.filter_eq_self.mpr (by simp)]
        simp [Kcs5Neutral.nums]
      refine len_of (k16 _ _ hl) ?_
      simp
      refine ⟨a, p6, ta, s, ps.map (· + 1), l.length, n, to, M, rfl, ok.same k16, hS.mono (vw_up k16), e7, k16 _ _ hto, by omega, ?_, fun H7 p7 k7 hp7 => ?_⟩
      · rw [← fe]
        have := @followed_len n l to s.text 0
        have h8 : s.text.length * (1 + to.length) ≤ 4096 * 17 := Nat.mul_le_mul (by omega) (by omega)
        omega
      · refine q H7 p7 (Same.tr k16 k7) ?_
        rw [fe]; exact hp7
theorem pure_rows_of (T : Txt K mg A) (vs : List V) (H : Hp) (Q : VK) (E : XK) (h : sp_rows_of vs H Q E) : t_rows_of K A { nx := fun _ H' => Q .non H', rt := Q } (L2.start ["owners", "rows", "size", "place", "owner"] vs) H := by
  obtain ⟨a, o, rfl, ha, hz, q⟩ := h
  rw [t_rows_of, u_tSeq]
  simp [L2.start]
  refine alloc_new fun p H1 n1 e1 k1 => ?_
  rw [u_tSeq]
  simp
  rw [u_tSeq]
  have pa : a ≠ p := ne_of_none ha n1
  obtain ⟨Pv, hP⟩ := hid (fun (i : Nat) (σ : L2.St) (H' : Hp) => ∃ (acc : List (Nat × Nat)) (s : Nat) (v w : Option V), σ = [some (.ref a), some (.ref p), some (.int (s : Nat)), v, w] ∧ Kp [p] H1 H' ∧ IL H' p (flat2 acc) ∧ mRows 0 o = acc ++ mRows s (o.drop i) ∧ acc.length ≤ i)
  refine for_enum (a := a) (xs := (nums o).map V.int) Pv (fun R r => by simpa using r) (by rw [hP]; exact ⟨[], 0, none, none, by simp, Kp.refl, by simpa [IL, flat2] using e1, by simp, by simp⟩) ?_ ?_ ?_
  · intro i σ H' hp
    rw [hP] at hp
    obtain ⟨acc, s, v, w, rfl, k, _⟩ := hp
    exact SqL.of (k _ _ (by simpa using pa) (k1 _ _ ha))
  · intro i x σ H' T' hx hp hT
    rw [hP] at hp
    obtain ⟨acc, s, v, w, rfl, k, e, f, hl⟩ := hp
    obtain ⟨y, hy, rfl⟩ := nums_map hx
    have hT' : Same H' (upd H' T' (.tup [.int (i : Nat), .int (y : Nat)])) := fun b u e => (upd_ne (ne_of_none e hT)).trans e
    generalize upd H' T' (.tup [.int (i : Nat), .int (y : Nat)]) = H2 at hT'
    have k2 : Kp [p] H1 H2 := k.trans (Same.kp hT')
    have e2 := hT' _ _ e
    have ha2 : IL H2 a (nums o) := k2 _ _ (by simpa using pa) (k1 _ _ ha)
    have hi : i < o.length := (List.getElem?_eq_some_iff.mp hy).1
    have hf := f
    rw [drop_get hy] at hf
    rw [mRows] at hf
    have hh : (o.drop (i + 1)).head? = o[i + 1]? := List.head?_drop
    rw [hh] at hf
    have fl := flat2_len acc
    dsimp only
    rw [u_tSeq]
    simp
    refine len_of ha2 ?_
    -- the two ways
    have go : ∀ (b : Bool), b = !decide (o[i + 1]? = some y) → (if b = true then tSeq (tDrop (tBM K "list" rAppend (tVar 1) (tCons (tVar 2) tNil)))
            (tSeq (tDrop (tBM K "list" rAppend (tVar 1) (tCons (tVar 4) tNil)))
            (tAsg (tC (.int 0)) (gName 2))) { nx := Pv (i + 1), rt := Q, bk := tRet (tVar 1) { nx := fun x H' => Q V.non H', rt := Q }, ct := Pv (i + 1) } [some (.ref a), some (.ref p), some (.int ((s : Int) + 1)), some (.int (i : Nat)), some (.int (y : Nat))] H2
          else Pv (i + 1) [some (.ref a), some (.ref p), some (.int ((s : Int) + 1)), some (.int (i : Nat)), some (.int (y : Nat))] H2) := by
      intro b hb
      cases b with
      | true =>
        have hb : ¬ o[i + 1]? = some y := by simpa using hb.symm
        rw [if_neg hb] at hf
        rw [if_pos rfl, u_tSeq]
        simp [e2]
        refine ⟨.inl ⟨rfl, _, SqL.of e2⟩, by rw [fl, sz]; omega, ?_⟩
        rw [u_tSeq]
        simp [e2]
        refine ⟨.inl ⟨rfl, _, SqL.of upd_same⟩, by rw [fl, sz]; omega, ?_⟩
        rw [hP]
        refine ⟨acc ++ [(s + 1, y)], 0, _, _, rfl, k2.trans (Kp.wr (by simp)), ?_, ?_, by simp; omega⟩
        · unfold IL
          rw [upd_same]
          simp [flat2]
        · rw [hf]; simp
      | false =>
        have hb : o[i + 1]? = some y := by simpa using hb.symm
        rw [if_pos hb] at hf
        rw [if_neg (by simp), hP]
        exact ⟨acc, s + 1, some (.int (i : Nat)), some (.int (y : Nat)), by simp, k2, e2, hf, by omega⟩
    simp
    by_cases hlast : (i : Int) + 1 = o.length
    · rw [if_pos hlast]
      have := go true (by
        have : o[i + 1]? = none := List.getElem?_eq_none (by omega)
        simp [this])
      simpa using this
    · rw [if_neg hlast]
      have hi1 : i + 1 < o.length := by omega
      obtain ⟨z, hz1⟩ : ∃ z, o[i + 1]? = some z := ⟨_, List.getElem?_eq_getElem hi1⟩
      refine ix_of' (i := i + 1) (SqL.of ha2) (by omega) (nums_get hz1) ?_
      have := go (!decide (z = y)) (by rw [hz1]; simp)
      simp at this ⊢
      by_cases hzy : z = y
      · subst hzy; simpa using this
      · have h2 : ¬ (z : Int) = (y : Int) := by omega
        rw [if_neg hzy] at this
        rw [if_neg h2]
        exact this
  · intro σ H' hp
    rw [hP] at hp
    obtain ⟨acc, s, v, w, rfl, k, e, f, hl⟩ := hp
    simp
    refine q H' p (fun b u eb => k b u (by simp; exact ne_of_none eb n1) (k1 _ _ eb)) n1 ?_
    have : o.drop ((nums o).map V.int).length = [] := by simp
    rw [this] at f
    rw [f]
    simpa [mRows] using e
end
end LD

namespace LD
open PySem PySem.Spec PyProof.Rows L2
/-- a list of lists of numbers -/
def LLs (H : Hp) (a : Addr) (ls : List (List Nat)) : Prop := ∃ as : List Addr, H a = some (.lst (as.map V.ref)) ∧ All2 (fun b l => IL H b (nums l)) as ls
def sp_references_in : Sp := fun vs H Q _ => ∃ (a : Addr) (t : List Nat), vs = [.ref a] ∧ IL H a (nums t) ∧ t.length ≤ 5000 ∧ ∀ H' p, Same H H' → H p = none → LLs H' p (scan none t) → Q (.ref p) H'
/-- what opened holds -/
def OpAt (t : List Nat) (i : Nat) (w : V) : Option (List Nat) → Prop
  | none => w = .non
  | some acc => ∃ k : Nat, k ≤ i ∧ w = .int (k : Nat) ∧ acc = (t.drop k).take (i - k)
theorem scan_cons {op : Option (List Nat)} {x : Nat} {t : List Nat} : scan op (x :: t) = if x = 91 then scan (some []) t else if x = 93 then (match op with
      | some acc => (if Kcs5.isLabel acc = true then [acc] else []) ++ scan none t
      | none => scan none t) else scan (op.map (· ++ [x])) t := by
  cases op <;> rw [scan.eq_def]
theorem take_snoc {t : List Nat} {i k : Nat} {x : Nat} (hx : t[i]? = some x) (h : k ≤ i) : (t.drop k).take (i - k) ++ [x] = (t.drop k).take (i + 1 - k) := by
  rw [show i + 1 - k = (i - k) + 1 from by omega, List.take_add_one, List.getElem?_drop, show k + (i - k) = i from by omega, hx]
  rfl
section
variable {K : PySem.W.Frag} {mg : Str → Option Value} {A : Ad}
theorem pure_references_in (T : Txt K mg A) (vs : List V) (H : Hp) (Q : VK) (E : XK) (h : sp_references_in vs H Q E) : t_references_in K A (sp_is_label K) { nx := fun _ H' => Q .non H', rt := Q } (L2.start ["text", "found", "opened", "place", "byte"] vs) H := by
  obtain ⟨a, t, rfl, ha, hz, q⟩ := h
  rw [t_references_in, u_tSeq]
  simp [L2.start]
  refine alloc_new fun p H1 n1 e1 k1 => ?_
  rw [u_tSeq]
  simp
  rw [u_tSeq]
  have pa : a ≠ p := ne_of_none ha n1
  obtain ⟨Pv, hP⟩ := hid (fun (i : Nat) (σ : L2.St) (H' : Hp) => ∃ (as : List Addr) (acc : List (List Nat)) (op : Option (List Nat)) (u : V) (v w : Option V), σ = [some (.ref a), some (.ref p), some u, v, w] ∧ Kp [p] H1 H' ∧ H' p = some (.lst (as.map V.ref)) ∧ All2 (fun b l => IL H' b (nums l) ∧ b ≠ p) as acc ∧ OpAt t i u op ∧
    scan none t = acc ++ scan op (t.drop i) ∧ acc.length ≤ i)
  refine for_enum (a := a) (xs := (nums t).map V.int) Pv (fun R r => by simpa using r) (by rw [hP]; exact ⟨[], [], none, .non, none, none, by simp, Kp.refl, by simpa using e1, .nil, rfl, by simp, by simp⟩) ?_ ?_ ?_
  · intro i σ H' hp
    rw [hP] at hp
    obtain ⟨as, acc, op, u, v, w, rfl, k, _⟩ := hp
    exact SqL.of (k _ _ (by simpa using pa) (k1 _ _ ha))
  · intro i x σ H' T' hx hp hT
    rw [hP] at hp
    obtain ⟨as, acc, op, u, v, w, rfl, k, e, hA, hO, f, hl⟩ := hp
    obtain ⟨y, hy, rfl⟩ := nums_map hx
    have hT' : Same H' (upd H' T' (.tup [.int (i : Nat), .int (y : Nat)])) := fun b u e => (upd_ne (ne_of_none e hT)).trans e
    generalize upd H' T' (.tup [.int (i : Nat), .int (y : Nat)]) = H2 at hT'
    have k2 : Kp [p] H1 H2 := k.trans (Same.kp hT')
    have e2 := hT' _ _ e
    have hA2 : All2 (fun b l => IL H2 b (nums l) ∧ b ≠ p) as acc := hA.imp fun b l h => ⟨hT' _ _ h.1, h.2⟩
    have ha2 : IL H2 a (nums t) := k2 _ _ (by simpa using pa) (k1 _ _ ha)
    have hi : i < t.length := (List.getElem?_eq_some_iff.mp hy).1
    rw [drop_get hy] at f
    rw [scan_cons] at f
    clear hT' hT e hA k
    dsimp only
    rw [u_tSeq]
    simp
    by_cases h91 : y = 91
    · subst h91
      rw [if_pos rfl] at f
      simp
      rw [hP]
      exact ⟨as, acc, some [], .int ((i + 1 : Nat) : Int), some (.int (i : Nat)), some (.int 91), by simp, k2, e2, hA2, ⟨i + 1, Nat.le_refl _, rfl, by simp⟩, f, by omega⟩
    · have h91' : ¬ (y : Int) = 91 := by omega
      rw [if_neg h91] at f
      rw [if_neg h91']
      by_cases h93 : y = 93
      · subst h93
        rw [if_pos rfl] at f
        simp
        cases op with
        | none =>
          have hu : u = .non := hO
          subst hu
          simp
          rw [hP]
          exact ⟨as, acc, none, .non, some (.int (i : Nat)), some (.int 93), by simp, k2, e2, hA2, rfl, f, by omega⟩
        | some lab =>
          obtain ⟨k0, hk0, rfl, hlab⟩ := hO
          simp
          rw [u_tSeq]
          simp
          refine sl_of (SqL.of ha2) (alloc_new fun b1 H3 n3 e3 k3 => ?_)
          rw [cut_nums, ← hlab] at e3
          refine ⟨b1, nums lab, rfl, SqL.of e3, ?_⟩
          simp only [asB_bl, mLabel_eq]
          have k13 : Kp [p] H1 H3 := k2.trans (Same.kp k3)
          by_cases hL : Kcs5.isLabel lab = true
          · rw [if_pos hL]
            simp only [hL, if_true] at f
            refine ⟨.inl ⟨rfl, _, SqL.of (k3 _ _ e2)⟩, sl_of (SqL.of (k3 _ _ ha2)) (alloc_new fun b2 H4 n4 e4 k4 => ?_)⟩
            rw [cut_nums, ← hlab] at e4
            simp [k4 _ _ (k3 _ _ e2)]
            have hal := hA2.len
            refine ⟨by rw [sz]; omega, ?_⟩
            have k14 : Kp [p] H1 H4 := k13.trans (Same.kp k4)
            have bp : b2 ≠ p := (ne_of_none (k3 _ _ e2) n4).symm
            rw [hP]
            refine ⟨as ++ [b2], acc ++ [lab], none, .non, some (.int (i : Nat)), some (.int 93), by simp, k14.trans (Kp.wr (by simp)), by rw [upd_same]; simp, ?_, rfl, by rw [f]; simp, by simp; omega⟩
            refine All2.app (hA2.imp fun b l hb => ?_) (.cons ?_ .nil)
            · refine ⟨?_, hb.2⟩
              show upd H4 p _ b = _
              rw [upd_ne hb.2]; exact k4 _ _ (k3 _ _ hb.1)
            · refine ⟨?_, bp⟩
              show upd H4 p _ b2 = _
              rw [upd_ne bp]; exact e4
          · rw [if_neg hL]
            simp only [if_neg hL, List.nil_append] at f
            rw [hP]
            exact ⟨as, acc, none, .non, some (.int (i : Nat)), some (.int 93), by simp, k13, k3 _ _ e2, hA2.imp fun b l h => ⟨k3 _ _ h.1, h.2⟩, rfl, f, by omega⟩
      · have h93' : ¬ (y : Int) = 93 := by omega
        rw [if_neg h93] at f
        simp [h93']
        rw [hP]
        refine ⟨as, acc, op.map (· ++ [y]), u, some (.int (i : Nat)), some (.int (y : Nat)), by simp, k2, e2, hA2, ?_, f, by omega⟩
        cases op with
        | none => exact hO
        | some lab =>
          obtain ⟨k0, hk0, rfl, hlab⟩ := hO
          exact ⟨k0, by omega, rfl, by rw [hlab]; exact take_snoc hy hk0⟩
  · intro σ H' hp
    rw [hP] at hp
    obtain ⟨as, acc, op, u, v, w, rfl, k, e, hA, hO, f, hl⟩ := hp
    simp
    refine q H' p (fun b u eb => k b u (by simp; exact ne_of_none eb n1) (k1 _ _ eb)) n1 ?_
    have : t.drop ((nums t).map V.int).length = [] := by simp
    rw [this] at f
    have e9 : scan op [] = [] := by unfold scan; cases op <;> rfl
    rw [e9, List.append_nil] at f
    rw [f]
    exact ⟨as, e, hA.imp fun b l h => h.1⟩
end
end LD

namespace LD
open PySem PySem.Spec PyProof.Rows L2
/-! ### comprehensions -/
section
variable {σ : L2.St} {H : Hp} {Q : VK} {K : PySem.W.Frag}
/-- tests and items leave the heap as it is; zs: what is known of the items -/
theorem lc_zip {γ : Type} {tl : TE} {tt : TT} {te : TE} {a : Addr} {xs : List V} {i : Nat} (zs : List γ) (fx : γ → V) (kp : γ → Bool) (f : γ → V) (hx : xs = zs.map fx) (he : ∀ R : VK, R (.ref a) H → tl σ H R) (hl : SqL K H a xs) (hz : xs.length ≤ sizeLine)
    (ht : ∀ z ∈ zs, ∀ (H' : Hp) (R : Bool → Hp → Prop), Same H H' → R (kp z) H' → tt (σ.set i (some (fx z))) H' R)
    (hf : ∀ z ∈ zs, kp z = true → ∀ (H' : Hp) (R : VK), Same H H' → R (f z) H' → te (σ.set i (some (fx z))) H' R)
    (q : alloc H (.lst ((zs.filter kp).map f)) fun p H2 => Q (.ref p) H2) : tLc (iList K tl) (gName i) tt te [i] σ H Q := by
  refine he _ ⟨a, rfl, ⟨_, hl⟩, fun D hD => ?_⟩
  have up : ∀ o, Same H (upd H D o) := fun o b u e => (upd_ne (ne_of_none e hD)).trans e
  have wp : ∀ v, wipe (σ.set i v) [i] = wipe σ [i] := fun v => by simp [wipe]
  refine lc_list (K := K) (a := a) (xs := xs) (fun n H' => H' = upd H D (.lst (((zs.take n).filter kp).map f))) rfl ?_ ?_ ?_
  · rintro n H' _ rfl
    exact sq_at (fun o e => up _ _ _ e) hl
  · rintro n x H' hx' rfl
    rw [hx, List.getElem?_map] at hx'
    cases ez : zs[n]? with
    | none => rw [ez] at hx'; cases hx'
    | some z =>
      rw [ez] at hx'; cases hx'
      have hm : z ∈ zs := List.mem_of_getElem? ez
      simp only [u_gName]
      have ew : (wipe σ [i]).set i (some (fx z)) = σ.set i (some (fx z)) := by simp [wipe]
      rw [ew]
      refine ⟨wp _, ht z hm _ _ (up _) ?_⟩
      have tk : (zs.take (n + 1)).filter kp = (zs.take n).filter kp ++ if kp z = true then [z] else [] := by
        rw [List.take_add_one, ez, Option.toList_some, List.filter_append]
        simp [List.filter_cons]
      cases e : kp z with
      | true =>
        rw [if_pos rfl]
        refine hf z hm e _ _ (up _) ⟨_, upd_same, ?_, ?_⟩
        · have h1 : n < zs.length := (List.getElem?_eq_some_iff.mp ez).1
          have h2 := List.length_filter_le kp (zs.take n)
          rw [List.length_map]
          rw [List.length_take] at h2
          rw [hx, List.length_map] at hz
          omega
        · rw [tk, e, if_pos rfl, List.map_append, upd_upd']
          rfl
      | false =>
        rw [if_neg (by simp), tk, e, if_neg (by simp), List.append_nil]
  · rintro H' rfl
    have := q D hD
    rw [hx, List.length_map, List.take_length]
    exact this
/-- each item makes new things; S: what is known of what it gives -/
theorem lc_refs {γ : Type} {tl : TE} {te : TE} {a : Addr} {xs : List V} {M : List Addr} {i : Nat} (zs : List γ) (fx : γ → V) (S : Hp → Addr → γ → Prop) (mono : ∀ I I' b z, Same I I' → S I b z → S I' b z) (ok : Ok M H) (hx : xs = zs.map fx) (he : ∀ R : VK, R (.ref a) H → tl σ H R) (hl : SqL K H a xs) (hz : xs.length ≤ sizeLine)
    (hf : ∀ z ∈ zs, ∀ (H' : Hp) (D : Addr) (R : VK), Same H H' → Ok (D :: M) H' → Same (wo H M) (wo H' (D :: M)) → (∀ H2 b, Same H' H2 → S (wo H2 (D :: M)) b z → R (.ref b) H2) → te (σ.set i (some (fx z))) H' R)
    (q : ∀ H' D bs, Same H H' → H D = none → H' D = some (.lst (bs.map V.ref)) → All2 (S (wo H' M)) bs zs → Q (.ref D) H') : tLc (iList K tl) (gName i) tYes te [i] σ H Q := by
  refine he _ ⟨a, rfl, ⟨_, hl⟩, fun D hD => ?_⟩
  have wp : ∀ v, wipe (σ.set i v) [i] = wipe σ [i] := fun v => by simp [wipe]
  have sm : ∀ {H'}, Kp [D] H H' → Same H H' := fun {H'} k b o e => k b o (by simp; exact ne_of_none e hD) e
  have vs : ∀ {H'}, Kp [D] H H' → Same (wo H M) (wo H' (D :: M)) := fun {H'} k => vw_same fun b o n e => ⟨by simp [n]; exact ne_of_none e hD, sm k b o e⟩
  refine lc_list (K := K) (a := a) (xs := xs) (fun n H' => ∃ bs, Kp [D] H H' ∧ H' D = some (.lst (bs.map V.ref)) ∧ All2 (S (wo H' (D :: M))) bs (zs.take n)) ⟨[], (Kp.new hD), by simp, by simp; exact .nil⟩ ?_ ?_ ?_
  · rintro n H' _ ⟨bs, k, _⟩
    exact sq_at (fun o e => sm k _ _ e) hl
  · rintro n x H' hx' ⟨bs, k, e, hA⟩
    rw [hx, List.getElem?_map] at hx'
    cases ez : zs[n]? with
    | none => rw [ez] at hx'; cases hx'
    | some z =>
      rw [ez] at hx'; cases hx'
      have hm : z ∈ zs := List.mem_of_getElem? ez
      simp only [u_gName]
      have ew : (wipe σ [i]).set i (some (fx z)) = σ.set i (some (fx z)) := by simp [wipe]
      rw [ew]
      refine ⟨wp _, ?_⟩
      simp only [u_tYes, if_true]
      have ok' : Ok (D :: M) H' := fun b m => by
        simp at m
        rcases m with rfl | m
        · rw [e]; simp
        · exact ok.same (sm k) b m
      refine hf z hm H' D _ (sm k) ok' (vs k) fun H2 b k2 hb => ⟨_, k2 _ _ e, ?_, bs ++ [b], ?_, by rw [upd_same]; simp, ?_⟩
      · have h1 : n < zs.length := (List.getElem?_eq_some_iff.mp ez).1
        have := hA.len
        rw [List.length_take] at this
        rw [List.length_map]
        rw [hx, List.length_map] at hz
        omega
      · exact (k.trans (Same.kp k2)).trans (Kp.wr (by simp))
      · have v2 : ∀ o, Same (wo H2 (D :: M)) (wo (upd H2 D o) (D :: M)) := fun o => vw_same fun b u n e => ⟨n, (upd_ne (fun z => n (by simp [z]))).trans e⟩
        have v1 : Same (wo H' (D :: M)) (wo H2 (D :: M)) := vw_up k2
        rw [List.take_add_one, ez, Option.toList_some]
        exact (hA.imp fun b z h => mono _ _ _ _ (Same.tr v1 (v2 _)) h).app (.cons (mono _ _ _ _ (v2 _) hb) .nil)
  · rintro H' ⟨bs, k, e, hA⟩
    rw [hx, List.length_map, List.take_length] at hA
    refine q H' D bs (sm k) hD e (hA.imp fun b z h => mono _ _ _ _ ?_ h)
    exact vw_same fun b o n e => ⟨fun m => n (by simp [m]), e⟩
end
end LD

namespace LD
open PySem PySem.Spec PyProof.Rows L2
/-! ### command.py: how a command lies -/
structure MC where
  kind : Int
  number : Int
  act : Int
  law : Int
  begins : Int
  till : Int
  follow : Int
  target : Int
  after : List Int
  label : List Int
  old : List Int
  to : List Int
  text : List Int
def cmdF (m : MC) (a l o t x : Addr) : List (Str × V) := [("kind", .int m.kind), ("number", .int m.number), ("act", .int m.act), ("law", .int m.law), ("begins", .int m.begins), ("till", .int m.till), ("follow", .int m.follow), ("target", .int m.target), ("after", .ref a), ("label", .ref l), ("old", .ref o), ("to", .ref t), ("text", .ref x)]
def CmdAt (A : Ad) (H : Hp) (c : Addr) (m : MC) : Prop := ∃ dx a l o t x, H c = some (.ins A.c_Command dx (cmdF m a l o t x)) ∧ IL H a m.after ∧ IL H l m.label ∧ IL H o m.old ∧ IL H t m.to ∧ IL H x m.text
theorem CmdAt.mono {A : Ad} {H H' : Hp} {c : Addr} {m : MC} (h : CmdAt A H c m) (k : Same H H') : CmdAt A H' c m := by
  obtain ⟨dx, a, l, o, t, x, h0, h1, h2, h3, h4, h5⟩ := h
  exact ⟨dx, a, l, o, t, x, k _ _ h0, k _ _ h1, k _ _ h2, k _ _ h3, k _ _ h4, k _ _ h5⟩
def MC.fresh (k : Int) : MC := ⟨k, 0, 0, 0, 0, 0, 0, 0, [], [], [], [], []⟩
/-- what a command says -/
def WhatRel (m : MC) : Kcs5.What → Prop
  | .put a l t => m.kind = 2 ∧ m.after = nums a ∧ m.label = nums l ∧ m.text = nums t
  | .take l => m.kind = 3 ∧ m.label = nums l
  | .text l t => m.kind = 4 ∧ m.label = nums l ∧ m.text = nums t
  | .word l o t => m.kind = 5 ∧ m.label = nums l ∧ m.old = nums o ∧ m.text = nums t
  | .name l t f => m.kind = 6 ∧ m.label = nums l ∧ m.to = nums t ∧ m.follow = (if f = true then 1 else 0)
  | .void n => m.kind = 7 ∧ m.target = (n : Nat)
end LD

namespace LD
open PySem PySem.Spec PyProof.Rows L2
/-! ### effect.py -/
def sp_put_section (A : Ad) : Sp := fun vs H Q _ => ∃ (ca sa : Addr) (m : MC) (n : Nat) (a l t : List Nat) (ss : Kcs5.Law) (M : List Addr), vs = [.ref ca, .ref sa] ∧ Ok M H ∧ CmdAt A (wo H M) ca m ∧ m.number = (n : Nat) ∧ WhatRel m (.put a l t) ∧ Kcs5.isText t = true ∧ LawOk ss ∧ SecsAt A (wo H M) sa ss ∧
  (∀ H' p l', Same H H' → Kcs5.effect n (.put a l t) ss = some l' → SecsAt A (wo H' M) p l' → Q (.ref p) H') ∧ (∀ H', Same H H' → Kcs5.effect n (.put a l t) ss = none → Q .non H')
def sp_change_word (A : Ad) : Sp := fun vs H Q _ => ∃ (ca sa : Addr) (m : MC) (n k : Nat) (l o t : List Nat) (x : Kcs5.Section_) (ss : Kcs5.Law) (M : List Addr), vs = [.ref ca, .ref sa, .int (k : Nat)] ∧ Ok M H ∧ CmdAt A (wo H M) ca m ∧ m.number = (n : Nat) ∧ WhatRel m (.word l o t) ∧ WhatOk n (.word l o t) ∧ LawOk ss ∧ SecsAt A (wo H M) sa ss ∧
  ss[k]? = some x ∧ x.label = l ∧
  (∀ H' p l', Same H H' → Kcs5.effect n (.word l o t) ss = some l' → SecsAt A (wo H' M) p l' → Q (.ref p) H') ∧ (∀ H', Same H H' → Kcs5.effect n (.word l o t) ss = none → Q .non H')
def sp_change_label (A : Ad) : Sp := fun vs H Q _ => ∃ (ca sa : Addr) (m : MC) (n k : Nat) (l t : List Nat) (f : Bool) (x : Kcs5.Section_) (ss : Kcs5.Law) (M : List Addr), vs = [.ref ca, .ref sa, .int (k : Nat)] ∧ Ok M H ∧ CmdAt A (wo H M) ca m ∧ m.number = (n : Nat) ∧ WhatRel m (.name l t f) ∧ WhatOk n (.name l t f) ∧ LawOk ss ∧ SecsAt A (wo H M) sa ss ∧
  ss[k]? = some x ∧ x.label = l ∧
  (∀ H' p l', Same H H' → Kcs5.effect n (.name l t f) ss = some l' → SecsAt A (wo H' M) p l' → Q (.ref p) H') ∧ (∀ H', Same H H' → Kcs5.effect n (.name l t f) ss = none → Q .non H')
def sp_effect_of (A : Ad) : Sp := fun vs H Q _ => ∃ (ca sa : Addr) (m : MC) (n : Nat) (w : Kcs5.What) (ss : Kcs5.Law) (M : List Addr), vs = [.ref ca, .ref sa] ∧ Ok M H ∧ CmdAt A (wo H M) ca m ∧ m.number = (n : Nat) ∧ WhatRel m w ∧ WhatOk n w ∧ Kcs5.isVoid w = false ∧ LawOk ss ∧ SecsAt A (wo H M) sa ss ∧
  (∀ H' p l', Same H H' → Kcs5.effect n w ss = some l' → SecsAt A (wo H' M) p l' → Q (.ref p) H') ∧ (∀ H', Same H H' → Kcs5.effect n w ss = none → Q .non H')
section
variable {K : PySem.W.Frag} {mg : Str → Option Value} {A : Ad}
theorem has_at {ss : Kcs5.Law} {k : Nat} {x : Kcs5.Section_} (h : ss[k]? = some x) : Kcs5.has ss x.label = true := has_iff.mpr ⟨k, x, h, rfl⟩
theorem pure_put_section (T : Txt K mg A) (vs : List V) (H : Hp) (Q : VK) (E : XK) (h : sp_put_section A vs H Q E) : t_put_section K A (sp_new_section A) (sp_place_of K A) { nx := fun _ H' => Q .non H', rt := Q } (L2.start ["command", "sections", "section", "place"] vs) H := by
  obtain ⟨ca, sa, m, n, a, l, t, ss, M, rfl, ok, ⟨dx, a1, l1, o1, t1, x1, h0, ha, hl, ho, ht, hx⟩, hn, ⟨hk, ea, el, et⟩, htx, hL, hS, q1, q2⟩ := h
  rw [ea] at ha; rw [el] at hl; rw [et] at hx
  have hS' := hS
  obtain ⟨as, hs, hA⟩ := hS'
  have hlen := hA.len
  have h64 := hL.len
  have c0 := wo_le _ _ h0
  unfold cmdF at c0
  rw [hn] at c0
  have hs' := wo_le _ _ hs
  rw [t_put_section, u_tSeq]
  simp [L2.start]
  refine len_of hs' ?_
  simp
  by_cases h6 : (as.length : Int) = 64
  · rw [if_pos h6]
    refine q2 H (Same.refl _) ?_
    simp only [Kcs5.effect]
    rw [if_pos (.inr (.inr (by simp [Kcs5.SECTIONS]; omega)))]
  rw [if_neg h6]
  simp [c0, T.cl_Command, T.no_Command_label]
  refine ⟨sa, l1, ss, l, rfl, hS.mono wo_le, wo_le _ _ hl, fun H1 k x k1 ex exl => ?_, fun H1 k1 hno => ?_⟩
  · simp
    refine q2 H1 k1 ?_
    simp only [Kcs5.effect]
    rw [if_pos (.inl (by rw [← exl]; exact has_at ex))]
  simp
  rw [u_tSeq]
  simp [k1 _ _ c0, T.cl_Command, T.no_Command_label, T.no_Command_text, T.no_Command_number]
  have tl := isText_len htx
  refine ⟨l1, x1, n, l, t, M, rfl, ok.same k1, vw_up k1 _ _ hl, vw_up k1 _ _ hx, by omega, fun H2 p2 k2 hp2 => ?_⟩
  dsimp only
  have k12 := Same.tr k1 k2
  rw [u_tSeq]
  simp [k12 _ _ c0, T.cl_Command, T.no_Command_after]
  refine len_of (k12 _ _ (wo_le _ _ ha)) ?_
  simp
  by_cases hemp : a = []
  · subst hemp
    simp
    refine ⟨(by show 1 ≤ sizeLine; decide), alloc_new fun p3 H3 n3 e3 k3 => ?_⟩
    have k13 := Same.tr k12 k3
    simp [e3, k13 _ _ hs']
    refine ⟨by rw [sz]; omega, alloc_new fun p4 H4 n4 e4 k4 => ?_⟩
    have k14 := Same.tr k13 k4
    refine q1 H4 p4 (⟨l, Kcs5.by_ n t⟩ :: ss) k14 ?_ ⟨p2 :: as, ?_, .cons (hp2.mono (vw_up (Same.tr k3 k4))) (secs_mono hA (vw_up k14))⟩
    · simp only [Kcs5.effect]
      rw [if_neg]
      · rfl
      · rintro (h | h | h)
        · rw [hno] at h; cases h
        · exact h.1 rfl
        · simp [Kcs5.SECTIONS] at h; omega
    · refine wo_new (ok.same k13) n4 ?_
      rw [e4]; simp
  simp [hemp]
  rw [u_tSeq]
  simp [k12 _ _ c0, T.cl_Command, T.no_Command_after]
  refine ⟨sa, a1, ss, a, rfl, (hS.mono wo_le).mono k12, k12 _ _ (wo_le _ _ ha), fun H3 k x k3 ex exl => ?_, fun H3 k3 hno2 => ?_⟩
  · (try dsimp only)
    rw [u_tSeq]
    simp
    have k13 := Same.tr k12 k3
    refine sl_of (SqL.of (k13 _ _ hs')) (alloc_new fun p4 H4 n4 e4 k4 => ?_)
    rw [show ((k : Int) + 1) = ((k + 1 : Nat) : Int) from by omega, cutV_take] at e4
    refine ⟨(by show 1 ≤ sizeLine; decide), alloc_new fun p5 H5 n5 e5 k5 => ?_⟩
    simp [k5 _ _ e4, e5]
    refine ⟨by rw [sz]; omega, alloc_new fun p6 H6 n6 e6 k6 => ?_⟩
    have k16 := Same.tr k13 (Same.tr k4 (Same.tr k5 k6))
    refine sl_of (SqL.of (k16 _ _ hs')) (alloc_new fun p7 H7 n7 e7 k7 => ?_)
    rw [show ((k : Int) + 1) = ((k + 1 : Nat) : Int) from by omega, cutV_drop] at e7
    simp [k7 _ _ e6, e7]
    refine ⟨by rw [sz]; omega, alloc_new fun p8 H8 n8 e8 k8 => ?_⟩
    have k17 := Same.tr k16 k7
    have k18 := Same.tr k17 k8
    have k28 : Same H2 H8 := Same.tr k3 (Same.tr k4 (Same.tr k5 (Same.tr k6 (Same.tr k7 k8))))
    refine q1 H8 p8 (ss.take (k + 1) ++ ⟨l, Kcs5.by_ n t⟩ :: ss.drop (k + 1)) k18 ?_ ⟨as.take (k + 1) ++ p2 :: as.drop (k + 1), ?_, ?_⟩
    · simp only [Kcs5.effect]
      rw [if_neg, if_neg hemp, behind_insert hL.nd ex exl]
      rintro (h | h | h)
      · rw [hno] at h; cases h
      · have := has_at ex
        rw [exl, h.2] at this; cases this
      · simp [Kcs5.SECTIONS] at h; omega
    · refine wo_new (ok.same k17) n8 ?_
      rw [e8]; simp
    · have hA' := secs_mono hA (vw_up k18 (M := M))
      exact (hA'.take _).app (.cons (hp2.mono (vw_up k28)) (hA'.drop _))
  · (try dsimp only)
    rw [u_tSeq]
    simp
    refine q2 H3 (Same.tr k12 k3) ?_
    simp only [Kcs5.effect]
    rw [if_pos (.inr (.inl ⟨hemp, hno2⟩))]
theorem pure_change_word (T : Txt K mg A) (vs : List V) (H : Hp) (Q : VK) (E : XK) (h : sp_change_word A vs H Q E) : t_change_word K A (sp_exchange K A) (sp_is_short A) (sp_places_in K A) (sp_set_section A) { nx := fun _ H' => Q .non H', rt := Q } (L2.start ["command", "sections", "place", "section", "places", "changed"] vs) H := by
  obtain ⟨ca, sa, m, n, k, l, o, t, x, ss, M, rfl, ok, ⟨dx, a1, l1, o1, t1, x1, h0, ha, hl, ho, ht, hx⟩, hn, ⟨hk, el, eo, et⟩, ⟨w1, w2, w3, w4⟩, hL, hS, ex, exl, q1, q2⟩ := h
  rw [eo] at ho; rw [el] at hl; rw [et] at hx
  have hS' := hS
  obtain ⟨as, hs, hA⟩ := hS'
  obtain ⟨sx, es, hX⟩ := hA.get' ex
  obtain ⟨dx2, l2, t2, o2, y0, y1, y2, y3⟩ := hX.ex
  have so := hL.sec x (List.mem_of_getElem? ex)
  have c0 := wo_le _ _ h0
  unfold cmdF at c0
  rw [hn] at c0
  have tl := isText_len w4
  have ol := isText_len w3
  have sO := sectionOf_at hL.nd ex exl
  have eff : Kcs5.effect n (.word l o t) ss = match mPlaces (x.text.map Prod.fst) o with
      | [j] => if 4096 < (mEx x.text o.length (Kcs5.by_ n t) [j] 0).length then none else some (ss.set k ⟨x.label, mEx x.text o.length (Kcs5.by_ n t) [j] 0⟩)
      | _ => none := by
    have e6 : Kcs5.bytesOf x.text = x.text.map Prod.fst := rfl
    simp only [Kcs5.effect, sO, places_eq, e6]
    split
    · rename_i j he
      simp only [word_eq, withText_set hL.nd ex exl, he]
      rfl
    · rename_i hnot
      split
      · rename_i j e
        exact absurd e (hnot j)
      · rfl
  generalize hps : mPlaces (x.text.map Prod.fst) o = ps at eff
  rw [t_change_word, u_tSeq]
  simp [L2.start]
  refine ix_of (SqL.of (wo_le _ _ hs)) (v := .ref sx) (by rw [List.getElem?_map, es]; rfl) ?_
  rw [u_tSeq]
  simp [c0, wo_le _ _ y0, T.cl_Section, T.no_Section_text, T.cl_Command, T.no_Command_old]
  refine ⟨t2, o1, x.text.map Prod.fst, o, rfl, wo_le _ _ y2, wo_le _ _ ho, w2, by have := so.len; simp; omega, by omega, fun H1 p1 k1 n1 e1 => ?_⟩
  rw [hps] at e1
  (try dsimp only)
  rw [u_tSeq]
  simp
  refine len_of e1 ?_
  simp
  by_cases hone : (ps.length : Int) = 1
  · rw [if_pos hone]
    obtain ⟨j, rfl⟩ : ∃ j, ps = [j] := List.length_eq_one_iff.mp (by omega)
    simp only at eff
    rw [u_tSeq]
    simp [k1 _ _ c0, T.cl_Command, T.no_Command_old]
    refine len_of (k1 _ _ (wo_le _ _ ho)) ?_
    simp [k1 _ _ c0, T.cl_Command, T.no_Command_text, T.no_Command_number]
    have jl : j ≤ x.text.length := by
      have : j ∈ mPlaces (x.text.map Prod.fst) o := by rw [hps]; simp
      unfold mPlaces at this
      simp at this
      omega
    refine ⟨sx, p1, x1, x, [j], o.length, n, t, M, rfl, ok.same k1, hX.mono (vw_up k1), e1, k1 _ _ (wo_le _ _ hx), by omega, ?_, fun H2 p2 k2 hp2 => ?_⟩
    · have := so.len
      simp [mEx, by_len]
      omega
    (try dsimp only)
    have k12 := Same.tr k1 k2
    rw [u_tSeq]
    simp
    refine ⟨p2, _, rfl, hp2.mono wo_le, ?_⟩
    simp only [asB_bl]
    by_cases hsh : (mEx x.text o.length (Kcs5.by_ n t) [j] 0).length ≤ 4096
    · rw [if_neg (by omega)] at eff
      rw [decide_eq_true hsh]
      simp
      refine ⟨sa, p2, ss, k, _, M, rfl, ok.same k12, hS.mono (vw_up k12), hp2, (List.getElem?_eq_some_iff.mp ex).1, by have := hL.len; omega, fun H3 p3 k3 hp3 => ?_⟩
      exact q1 H3 p3 _ (Same.tr k12 k3) eff hp3
    · rw [if_pos (by omega)] at eff
      rw [decide_eq_false hsh]
      simp
      exact q2 H2 k12 eff
  · rw [if_neg hone]
    refine q2 H1 k1 ?_
    rw [eff]
    split
    · simp at hone
    · rfl
theorem zip_fst {α β : Type} {R : α → β → Prop} {as : List α} {bs : List β} (h : All2 R as bs) : (as.zip bs).map Prod.fst = as := by
  induction h with
  | nil => rfl
  | cons _ _ ih => simp [ih]
theorem zip_snd {α β : Type} {R : α → β → Prop} {as : List α} {bs : List β} (h : All2 R as bs) : (as.zip bs).map Prod.snd = bs := by
  induction h with
  | nil => rfl
  | cons _ _ ih => simp [ih]
theorem zip_mem {α β : Type} {R : α → β → Prop} {as : List α} {bs : List β} (h : All2 R as bs) : ∀ z ∈ as.zip bs, R z.1 z.2 := by
  induction h with
  | nil => simp
  | cons h _ ih =>
    intro z hz
    simp at hz
    rcases hz with rfl | hz
    · exact h
    · exact ih z hz
theorem pure_change_label (T : Txt K mg A) (vs : List V) (H : Hp) (Q : VK) (E : XK) (h : sp_change_label A vs H Q E) : t_change_label K A (sp_Section_init A) (sp_follow_label A) (sp_is_short A) (sp_place_of K A) (sp_set_section A) { nx := fun _ H' => Q .non H', rt := Q } (L2.start ["command", "sections", "place", "section", "named", "followed", "one"] vs) H := by
  obtain ⟨ca, sa, m, n, k, l, t, f, x, ss, M, rfl, ok, ⟨dx, a1, l1, o1, t1, x1, h0, ha, hl, ho, ht, hx⟩, hn, ⟨hk, el, et, ef⟩, ⟨w1, w2⟩, hL, hS, ex, exl, q1, q2⟩ := h
  rw [et] at ht; rw [el] at hl
  have hS' := hS
  obtain ⟨as, hs, hA⟩ := hS'
  obtain ⟨sx, es, hX⟩ := hA.get' ex
  obtain ⟨dx2, l2, t2, o2, y0, y1, y2, y3⟩ := hX.ex
  have so := hL.sec x (List.mem_of_getElem? ex)
  have kl := (List.getElem?_eq_some_iff.mp ex).1
  have c0 := wo_le _ _ h0
  unfold cmdF at c0
  rw [hn] at c0
  have eff0 : Kcs5.has ss t = true → Kcs5.effect n (.name l t f) ss = none := fun h => by
    simp only [Kcs5.effect]
    rw [if_pos (.inr h)]
  have eff : Kcs5.has ss t = false → Kcs5.effect n (.name l t f) ss = if f = true then
      (if ((ss.set k ⟨t, x.text⟩).map fun y => ({ y with text := Kcs5.followed n l t 0 y.text } : Kcs5.Section_)).any (fun y => decide (4096 < y.text.length)) = true then none else some ((ss.set k ⟨t, x.text⟩).map fun y => { y with text := Kcs5.followed n l t 0 y.text }))
      else some (ss.set k ⟨t, x.text⟩) := fun h => by
    have hr : (ss.map fun y => if y.label = l then ({ y with label := t } : Kcs5.Section_) else y) = ss.set k ⟨t, x.text⟩ := renamed_set hL.nd ex exl
    simp only [Kcs5.effect]
    rw [if_neg, hr]
    · rfl
    · rintro (z | z)
      · rw [← exl, has_at ex] at z; cases z
      · rw [h] at z; cases z
  rw [t_change_label, u_tSeq]
  simp [L2.start, c0, T.cl_Command, T.no_Command_to]
  refine ⟨sa, t1, ss, t, rfl, hS.mono wo_le, wo_le _ _ ht, fun H1 k' x' k1 ex' exl' => ?_, fun H1 k1 hno => ?_⟩
  · simp
    refine q2 H1 k1 (eff0 ?_)
    rw [← exl']; exact has_at ex'
  have eff2 := eff hno
  clear eff eff0
  simp
  rw [u_tSeq]
  simp
  refine ix_of (SqL.of (k1 _ _ (wo_le _ _ hs))) (v := .ref sx) (by rw [List.getElem?_map, es]; rfl) ?_
  (try dsimp only)
  rw [u_tSeq]
  simp [k1 _ _ c0, k1 _ _ (wo_le _ _ y0), T.cl_Command, T.no_Command_to, T.cl_Section, T.no_Section_text, T.no_Section_owners]
  refine mk_sec (Q := fun v H2 => sp_set_section A [.ref sa, .int (k : Nat), v] H2 _ E0) fun xa dx3 H2 n2 e2 k2 => ?_
  have k12 := Same.tr k1 k2
  have hN : SecAt A (wo H2 M) xa ⟨t, x.text⟩ := ⟨dx3, t1, t2, o2, wo_new (ok.same k1) n2 e2, vw_up k12 _ _ ht, vw_up k12 _ _ y2, vw_up k12 _ _ y3⟩
  refine ⟨sa, xa, ss, k, _, M, rfl, ok.same k12, hS.mono (vw_up k12), hN, kl, by have := hL.len; omega, fun H3 p3 k3 hp3 => ?_⟩
  have k13 := Same.tr k12 k3
  (try dsimp only)
  rw [u_tSeq]
  simp [k13 _ _ c0, T.cl_Command, T.no_Command_follow]
  rw [ef]
  cases f with
  | false =>
    simp
    exact q1 H3 p3 _ k13 (by rw [eff2]; rfl) hp3
  | true =>
    simp
    rw [if_pos rfl] at eff2
    rw [u_tSeq]
    rw [u_tAsg]
    obtain ⟨bs, hb, hB⟩ := hp3
    have bl := hB.len
    have h64 := hL.len
    refine lc_refs (a := p3) (M := M) (bs.zip (ss.set k ⟨t, x.text⟩)) (fun z => .ref z.1) (fun I b z => SecAt A I b ⟨z.2.label, Kcs5.followed n l t 0 z.2.text⟩) (fun I I' b z kk h => h.mono kk) (ok.same k13) (by rw [show (fun z : Addr × Kcs5.Section_ => V.ref z.1) = V.ref ∘ Prod.fst from rfl, ← List.map_map, zip_fst hB]) (fun R r => by simpa using r) (SqL.of (wo_le _ _ hb)) (by simp at bl ⊢; rw [sz]; omega) ?_ ?_
    · intro z hz H4 D R k4 ok4 v4 hR
      have k14 := Same.tr k13 k4
      have hz1 := zip_mem hB z hz
      have hz2 : z.2 ∈ ss.set k ⟨t, x.text⟩ := (List.of_mem_zip hz).2
      simp [k14 _ _ c0, T.cl_Command, T.no_Command_label, T.no_Command_to, T.no_Command_number]
      have zl : z.2.text.length ≤ 4096 := by
        rcases List.mem_or_eq_of_mem_set hz2 with h | h
        · exact (hL.sec _ h).len
        · rw [h]; exact so.len
      refine ⟨z.1, l1, t1, z.2, l, t, n, D :: M, rfl, ok4, hz1.mono v4, k14 _ _ (wo_le _ _ hl), k14 _ _ (wo_le _ _ ht), w1, isLabel_len w2, zl, fun H5 p5 k5 hp5 => hR H5 p5 k5 hp5⟩
    · intro H4 D cs k4 nD eD hC
      have k14 := Same.tr k13 k4
      have cl := hC.len
      have hC2 : All2 (SecAt A (wo H4 M)) cs ((ss.set k ⟨t, x.text⟩).map fun y => { y with text := Kcs5.followed n l t 0 y.text }) := by
        have e1 : ((ss.set k ⟨t, x.text⟩).map fun y => ({ y with text := Kcs5.followed n l t 0 y.text } : Kcs5.Section_)) = (bs.zip (ss.set k ⟨t, x.text⟩)).map fun z => ⟨z.2.label, Kcs5.followed n l t 0 z.2.text⟩ := by
          conv => lhs; rw [← zip_snd hB]
          rw [List.map_map]
          rfl
        rw [e1]
        exact hC.map2
      generalize hm' : ((ss.set k ⟨t, x.text⟩).map fun y => ({ y with text := Kcs5.followed n l t 0 y.text } : Kcs5.Section_)) = ml at *
      simp
      rw [u_tSeq]
      simp
      have cl2 := hC2.len
      have ml64 : ml.length ≤ 64 := by rw [← hm']; simp; omega
      refine lc_zip (a := D) (cs.zip ml) (fun z => .ref z.1) (fun _ => true) (fun z => .bl (decide (z.2.text.length ≤ 4096))) (by rw [show (fun z : Addr × Kcs5.Section_ => V.ref z.1) = V.ref ∘ Prod.fst from rfl, ← List.map_map, zip_fst hC2]) (fun R r => by simpa using r) (SqL.of eD) (by simp; rw [sz]; omega) (fun z _ H' R _ r => r) ?_ ?_
      · intro z hz _ H5 R k5 hR
        simp
        exact ⟨z.1, z.2, rfl, ((zip_mem hC2 z hz).mono wo_le).mono k5, hR⟩
      · rw [List.filter_eq_self.mpr (by simp)]
        refine alloc_new fun p5 H5 n5 e5 k5 => ?_
        refine ⟨p5, ml.map fun y => decide (y.text.length ≤ 4096), rfl, SqL.of ?_, ?_⟩
        · rw [e5]
          congr 2
          rw [List.map_map]
          conv => rhs; rw [← zip_snd hC2, List.map_map]
          rfl
        · have eall : (ml.map fun y => decide (y.text.length ≤ 4096)).all id = !(ml.any fun y => decide (4096 < y.text.length)) := by
            rw [Bool.eq_iff_iff]
            simp
          rw [eall]
          simp only [asB_bl]
          cases ha : ml.any fun y => decide (4096 < y.text.length) with
          | true =>
            simp
            refine q2 H5 (Same.tr k14 k5) ?_
            rw [eff2, if_pos ha]
          | false =>
            simp
            refine q1 H5 D ml (Same.tr k14 k5) ?_ ⟨cs, ?_, secs_mono hC2 (vw_up k5)⟩
            · rw [eff2, if_neg (by rw [ha]; simp)]
            · have : wo H4 M D = some (.lst (cs.map V.ref)) := wo_new (ok.same k13) nD eD
              exact vw_up k5 _ _ this
theorem pure_effect_of (T : Txt K mg A) (vs : List V) (H : Hp) (Q : VK) (E : XK) (h : sp_effect_of A vs H Q E) : t_effect_of K A (sp_change_label A) (sp_change_word A) (sp_new_section A) (sp_place_of K A) (sp_put_section A) (sp_set_section A) { nx := fun _ H' => Q .non H', rt := Q } (L2.start ["command", "sections", "place"] vs) H := by
  obtain ⟨ca, sa, m, n, w, ss, M, rfl, ok, hC, hn, hW, hO, hV, hL, hS, q1, q2⟩ := h
  have hC' := hC
  obtain ⟨dx, a1, l1, o1, t1, x1, h0, ha, hl, ho, ht, hx⟩ := hC'
  have c0 := wo_le _ _ h0
  unfold cmdF at c0
  rw [hn] at c0
  have h64 := hL.len
  rw [t_effect_of, u_tSeq]
  simp [L2.start, c0, T.cl_Command, T.no_Command_kind]
  cases w with
  | void k => cases hV
  | put a l t =>
    simp [hW.1]
    exact ⟨ca, sa, m, n, a, l, t, ss, M, rfl, ok, hC, hn, hW, hO.2.2, hL, hS, q1, q2⟩
  | take l =>
    simp [hW.1]
    rw [u_tSeq]
    simp [c0, T.cl_Command, T.no_Command_label]
    have el := hW.2
    rw [el] at hl
    refine ⟨sa, l1, ss, l, rfl, hS.mono wo_le, wo_le _ _ hl, fun H1 k x k1 ex exl => ?_, fun H1 k1 hno => ?_⟩
    · (try dsimp only)
      rw [u_tSeq]
      simp
      rw [u_tSeq]
      simp [k1 _ _ c0, T.cl_Command, T.no_Command_kind, hW.1]
      obtain ⟨as, hs, hA⟩ := hS
      have hlen := hA.len
      refine sl_of (SqL.of (k1 _ _ (wo_le _ _ hs))) (alloc_new fun p2 H2 n2 e2 k2 => ?_)
      rw [cutV_take] at e2
      have k12 := Same.tr k1 k2
      refine sl_of (SqL.of (k12 _ _ (wo_le _ _ hs))) (alloc_new fun p3 H3 n3 e3 k3 => ?_)
      rw [show ((k : Int) + 1) = ((k + 1 : Nat) : Int) from by omega, cutV_drop] at e3
      simp [k3 _ _ e2, e3]
      refine ⟨by rw [sz]; omega, alloc_new fun p4 H4 n4 e4 k4 => ?_⟩
      have k13 := Same.tr k12 k3
      have k14 := Same.tr k13 k4
      refine q1 H4 p4 (ss.eraseIdx k) k14 ?_ ⟨as.take k ++ as.drop (k + 1), ?_, ?_⟩
      · simp only [Kcs5.effect]
        rw [if_pos (by rw [← exl]; exact has_at ex), filter_erase hL.nd ex exl]
      · refine wo_new (ok.same k13) n4 ?_
        rw [e4]; simp
      · rw [List.eraseIdx_eq_take_drop_succ]
        have hA' := secs_mono hA (vw_up k14 (M := M))
        exact (hA'.take _).app (hA'.drop _)
    · (try dsimp only)
      rw [u_tSeq]
      simp
      refine q2 H1 k1 ?_
      simp only [Kcs5.effect]
      rw [hno]; rfl
  | text l t =>
    simp [hW.1]
    rw [u_tSeq]
    simp [c0, T.cl_Command, T.no_Command_label]
    obtain ⟨hk, el, et⟩ := hW
    rw [el] at hl; rw [et] at hx
    refine ⟨sa, l1, ss, l, rfl, hS.mono wo_le, wo_le _ _ hl, fun H1 k x k1 ex exl => ?_, fun H1 k1 hno => ?_⟩
    · (try dsimp only)
      rw [u_tSeq]
      simp
      rw [u_tSeq]
      simp [k1 _ _ c0, T.cl_Command, T.no_Command_kind, hk]
      rw [u_tSeq]
      simp [k1 _ _ c0, T.cl_Command, T.no_Command_kind, T.no_Command_label, T.no_Command_text, T.no_Command_number, hk]
      have tl := isText_len hO.2
      refine ⟨l1, x1, n, l, t, M, rfl, ok.same k1, vw_up k1 _ _ hl, vw_up k1 _ _ hx, by omega, fun H2 p2 k2 hp2 => ?_⟩
      have k12 := Same.tr k1 k2
      refine ⟨sa, p2, ss, k, _, M, rfl, ok.same k12, hS.mono (vw_up k12), hp2, (List.getElem?_eq_some_iff.mp ex).1, by omega, fun H3 p3 k3 hp3 => ?_⟩
      refine q1 H3 p3 _ (Same.tr k12 k3) ?_ hp3
      simp only [Kcs5.effect]
      rw [if_pos (by rw [← exl]; exact has_at ex), withText_set hL.nd ex exl, ← exl]
    · (try dsimp only)
      rw [u_tSeq]
      simp
      refine q2 H1 k1 ?_
      simp only [Kcs5.effect]
      rw [hno]; rfl
  | word l o t =>
    simp [hW.1]
    rw [u_tSeq]
    simp [c0, T.cl_Command, T.no_Command_label]
    have el := hW.2.1
    rw [el] at hl
    refine ⟨sa, l1, ss, l, rfl, hS.mono wo_le, wo_le _ _ hl, fun H1 k x k1 ex exl => ?_, fun H1 k1 hno => ?_⟩
    · (try dsimp only)
      rw [u_tSeq]
      simp
      rw [u_tSeq]
      simp [k1 _ _ c0, T.cl_Command, T.no_Command_kind, hW.1]
      rw [u_tSeq]
      simp [k1 _ _ c0, T.cl_Command, T.no_Command_kind, hW.1]
      rw [u_tSeq]
      simp [k1 _ _ c0, T.cl_Command, T.no_Command_kind, hW.1]
      exact ⟨ca, sa, m, n, k, l, o, t, x, ss, M, rfl, ok.same k1, hC.mono (vw_up k1), hn, hW, hO, hL, hS.mono (vw_up k1), ex, exl, fun H' p l' kk => q1 H' p l' (Same.tr k1 kk), fun H' kk => q2 H' (Same.tr k1 kk)⟩
    · (try dsimp only)
      rw [u_tSeq]
      simp
      refine q2 H1 k1 ?_
      simp only [Kcs5.effect]
      rw [sectionOf_none hno]
  | name l t f =>
    simp [hW.1]
    rw [u_tSeq]
    simp [c0, T.cl_Command, T.no_Command_label]
    have el := hW.2.1
    rw [el] at hl
    refine ⟨sa, l1, ss, l, rfl, hS.mono wo_le, wo_le _ _ hl, fun H1 k x k1 ex exl => ?_, fun H1 k1 hno => ?_⟩
    · (try dsimp only)
      rw [u_tSeq]
      simp
      rw [u_tSeq]
      simp [k1 _ _ c0, T.cl_Command, T.no_Command_kind, hW.1]
      rw [u_tSeq]
      simp [k1 _ _ c0, T.cl_Command, T.no_Command_kind, hW.1]
      rw [u_tSeq]
      simp [k1 _ _ c0, T.cl_Command, T.no_Command_kind, hW.1]
      exact ⟨ca, sa, m, n, k, l, t, f, x, ss, M, rfl, ok.same k1, hC.mono (vw_up k1), hn, hW, hO, hL, hS.mono (vw_up k1), ex, exl, fun H' p l' kk => q1 H' p l' (Same.tr k1 kk), fun H' kk => q2 H' (Same.tr k1 kk)⟩
    · (try dsimp only)
      rw [u_tSeq]
      simp
      refine q2 H1 k1 ?_
      simp only [Kcs5.effect]
      rw [if_pos (.inl hno)]
end
end LD

namespace LD
open PySem PySem.Spec PyProof.Rows L2
/-! ### course.py -/
def stpF (n : Int) (b : Bool) (p : Addr) : List (Str × V) := [("number", .int n), ("has_effect", .bl b), ("sections", .ref p)]
structure StepAt (A : Ad) (I : Hp) (a : Addr) (x : Stp) : Prop where
  ex : ∃ dx p, I a = some (.ins A.c_Step dx (stpF (x.1 : Nat) x.2.1 p)) ∧ SecsAt A I p x.2.2
theorem StepAt.mono {A : Ad} {I I' : Hp} {a : Addr} {x : Stp} (h : StepAt A I a x) (k : Same I I') : StepAt A I' a x := by
  obtain ⟨dx, p, h0, h1⟩ := h.ex
  exact ⟨dx, p, k _ _ h0, h1.mono k⟩
theorem steps_mono {A : Ad} {I I' : Hp} {as : List Addr} {l : List Stp} (h : All2 (StepAt A I) as l) (k : Same I I') : All2 (StepAt A I') as l := h.imp fun _ _ r => r.mono k
def crsF (st : Addr) : List (Str × V) := [("steps", .ref st)]
def sp_Step_init (A : Ad) : Sp := fun vs H Q _ => ∃ (r dx p : Addr) (n : Int) (b : Bool), vs = [.ref r, .int n, .bl b, .ref p] ∧ H r = some (.ins A.c_Step dx []) ∧ ∀ H', H' r = some (.ins A.c_Step dx (stpF n b p)) → Kp [r] H H' → Q .non H'
def sp_Course_init (A : Ad) : Sp := fun vs H Q _ => ∃ r dx, vs = [.ref r] ∧ H r = some (.ins A.c_Course dx []) ∧ ∀ H' st, H st = none → H' r = some (.ins A.c_Course dx (crsF st)) → H' st = some (.lst []) → Kp [r] H H' → Q .non H'
def sp_Course_sections_now (A : Ad) : Sp := fun vs H Q _ => ∃ (c dx st : Addr) (as : List Addr) (W : Nat → Kcs5.What) (ns : List Nat) (M : List Addr), vs = [.ref c] ∧ Ok M H ∧ H c = some (.ins A.c_Course dx (crsF st)) ∧ H st = some (.lst (as.map V.ref)) ∧ All2 (StepAt A (wo H M)) as (stepsOf W [] ns) ∧
  ∀ H' p, Same H H' → SecsAt A (wo H' M) p (lawOf W [] ns) → Q (.ref p) H'
/-- a command of that number, in the heap -/
def CmdN (A : Ad) (W : Nat → Kcs5.What) (I : Hp) (a : Addr) (n : Nat) : Prop := ∃ m, CmdAt A I a m ∧ m.number = (n : Nat) ∧ WhatRel m (W n) ∧ WhatOk n (W n) ∧ Kcs5.isVoid (W n) = false
theorem CmdN.mono {A : Ad} {W : Nat → Kcs5.What} {I I' : Hp} {a : Addr} {n : Nat} (h : CmdN A W I a n) (k : Same I I') : CmdN A W I' a n := by
  obtain ⟨m, h1, h2⟩ := h
  exact ⟨m, h1.mono k, h2⟩
def sp_Course_take_one (A : Ad) : Sp := fun vs H Q _ => ∃ (c dx st ca : Addr) (as : List Addr) (W : Nat → Kcs5.What) (ns : List Nat) (n : Nat) (M : List Addr), vs = [.ref c, .ref ca] ∧ Ok M H ∧ st ∈ M ∧ H c = some (.ins A.c_Course dx (crsF st)) ∧ H st = some (.lst (as.map V.ref)) ∧ All2 (StepAt A (wo H M)) as (stepsOf W [] ns) ∧
  CmdN A W (wo H M) ca n ∧ (∀ j ∈ ns, WhatOk j (W j)) ∧ ns.length ≤ 2000 ∧
  ∀ H' a, Kp [st] H H' → H' st = some (.lst ((as ++ [a]).map V.ref)) → All2 (StepAt A (wo H' M)) (as ++ [a]) (stepsOf W [] (ns ++ [n])) → Q .non H'
def sp_Course_keep_same (A : Ad) : Sp := fun vs H Q _ => ∃ (c dx st cl : Addr) (as cas : List Addr) (W : Nat → Kcs5.What) (ns cs : List Nat) (M : List Addr), vs = [.ref c, .ref cl] ∧ Ok M H ∧ c ∈ M ∧ H c = some (.ins A.c_Course dx (crsF st)) ∧ H st = some (.lst (as.map V.ref)) ∧ All2 (StepAt A (wo H M)) as (stepsOf W [] ns) ∧
  H cl = some (.lst (cas.map V.ref)) ∧ All2 (CmdN A W (wo H M)) cas cs ∧ ns.length ≤ 2000 ∧ cs.length ≤ 2000 ∧
  ∀ H' st' as' k, Kp [c] H H' → H st' = none → H' c = some (.ins A.c_Course dx (crsF st')) → H' st' = some (.lst (as'.map V.ref)) → k ≤ cs.length → All2 (StepAt A (wo H' (st' :: M))) as' (stepsOf W [] (cs.take k)) → Q .non H'
def sp_Course_take_all (A : Ad) : Sp := fun vs H Q _ => ∃ (c dx st cl : Addr) (as cas : List Addr) (W : Nat → Kcs5.What) (ns cs : List Nat) (M : List Addr), vs = [.ref c, .ref cl] ∧ Ok M H ∧ c ∈ M ∧ H c = some (.ins A.c_Course dx (crsF st)) ∧ H st = some (.lst (as.map V.ref)) ∧ All2 (StepAt A (wo H M)) as (stepsOf W [] ns) ∧
  H cl = some (.lst (cas.map V.ref)) ∧ All2 (CmdN A W (wo H M)) cas cs ∧ ns.length ≤ 2000 ∧ cs.length ≤ 2000 ∧
  ∀ H' st' as' p, Kp [c] H H' → H st' = none → H' c = some (.ins A.c_Course dx (crsF st')) → H' st' = some (.lst (as'.map V.ref)) → All2 (StepAt A (wo H' (st' :: M))) as' (stepsOf W [] cs) → SecsAt A (wo H' (st' :: M)) p (lawOf W [] cs) → Q (.ref p) H'
def sp_Course_without_effect (A : Ad) : Sp := fun vs H Q _ => ∃ (c dx st : Addr) (as : List Addr) (W : Nat → Kcs5.What) (ns : List Nat), vs = [.ref c] ∧ H c = some (.ins A.c_Course dx (crsF st)) ∧ H st = some (.lst (as.map V.ref)) ∧ All2 (StepAt A H) as (stepsOf W [] ns) ∧ ns.length ≤ 2000 ∧
  ∀ H' p, Same H H' → H p = none → IL H' p (nums (idleOf W [] ns)) → Q (.ref p) H'
section
variable {K : PySem.W.Frag} {mg : Str → Option Value} {A : Ad}
theorem pure_Step_init (T : Txt K mg A) (vs : List V) (H : Hp) (Q : VK) (E : XK) (h : sp_Step_init A vs H Q E) : t_Step_init K A { nx := fun _ H' => Q .non H', rt := Q } (L2.start ["self", "number", "has_effect", "sections"] vs) H := by
  obtain ⟨r, dx, p, n, b, rfl, hr, q⟩ := h
  simp [u_tSeq, t_Step_init, L2.start, hr, T.cl_Step, T.no_Step_number, T.no_Step_has_effect, T.no_Step_sections]
  exact q _ upd_same (Kp.wr (by simp))
theorem mk_step {n : Int} {b : Bool} {p : Addr} {H : Hp} {Q : VK} {E : XK} (h : ∀ x dx H2, H x = none → H2 x = some (.ins A.c_Step dx (stpF n b p)) → Same H H2 → Q (.ref x) H2) :
    ∀ x dx, H x = none → H dx = none → ¬ dx = x → sp_Step_init A [.ref x, .int n, .bl b, .ref p] (upd (upd H dx (.own x)) x (.ins A.c_Step dx [])) (fun v H2 => v = .non ∧ Q (.ref x) H2) E :=
  mk_new (R := fun x dx H2 => sp_Step_init A [.ref x, .int n, .bl b, .ref p] H2 (fun v H2 => v = .non ∧ Q (.ref x) H2) E) fun x dx H2 n1 e k => ⟨x, dx, p, n, b, rfl, e, fun H' e' k' => ⟨rfl, h x dx H' n1 e' (same_kp n1 k k')⟩⟩
theorem pure_Course_init (T : Txt K mg A) (vs : List V) (H : Hp) (Q : VK) (E : XK) (h : sp_Course_init A vs H Q E) : t_Course_init K A { nx := fun _ H' => Q .non H', rt := Q } (L2.start ["self"] vs) H := by
  obtain ⟨r, dx, rfl, hr, q⟩ := h
  simp [t_Course_init, L2.start]
  refine alloc_new fun p H1 n1 e1 k1 => ?_
  simp [k1 _ _ hr, T.cl_Course, T.no_Course_steps]
  have pr : p ≠ r := (ne_of_none hr n1).symm
  exact q _ p n1 upd_same (by rw [upd_ne pr]; exact e1) ((Same.kp k1).trans (Kp.wr (by simp)))
theorem pure_Course_sections_now (T : Txt K mg A) (vs : List V) (H : Hp) (Q : VK) (E : XK) (h : sp_Course_sections_now A vs H Q E) : t_Course_sections_now K A { nx := fun _ H' => Q .non H', rt := Q } (L2.start ["self"] vs) H := by
  obtain ⟨c, dx, st, as, W, ns, M, rfl, ok, hc, hs, hA, q⟩ := h
  have hlen := hA.len
  rw [stepsOf_len] at hlen
  unfold crsF at hc
  simp [t_Course_sections_now, L2.start, hc, T.cl_Course, T.no_Course_steps]
  refine len_of hs ?_
  simp
  by_cases h0 : 0 < as.length
  · rw [if_pos h0]
    simp [hc, T.cl_Course, T.no_Course_steps]
    refine len_of hs ?_
    simp
    obtain ⟨a, ha⟩ : ∃ a, as[as.length - 1]? = some a := ⟨_, List.getElem?_eq_getElem (by omega)⟩
    obtain ⟨x, hx, hX⟩ := hA.get ha
    obtain ⟨dx2, p, g0, g1⟩ := hX.ex
    refine ix_of' (i := as.length - 1) (SqL.of hs) (by omega) (by rw [List.getElem?_map, ha]; rfl) ?_
    have g0' := wo_le _ _ g0
    unfold stpF at g0'
    simp [g0', T.cl_Step, T.no_Step_sections]
    refine q H p (Same.refl _) ?_
    rw [hlen] at hx
    rw [steps_last hx (by intro z; rw [z] at hlen; simp at hlen; rw [hlen] at h0; simp at h0)] at g1
    exact g1
  · rw [if_neg h0]
    have e0 : ns = [] := List.length_eq_zero_iff.mp (by omega)
    subst e0
    refine alloc_new fun p H1 n1 e1 k1 => ?_
    exact q H1 p k1 ⟨[], wo_new ok n1 e1, .nil⟩
theorem pure_Course_without_effect (T : Txt K mg A) (vs : List V) (H : Hp) (Q : VK) (E : XK) (h : sp_Course_without_effect A vs H Q E) : t_Course_without_effect K A { nx := fun _ H' => Q .non H', rt := Q } (L2.start ["self", "step"] vs) H := by
  obtain ⟨c, dx, st, as, W, ns, rfl, hc, hs, hA, hz, q⟩ := h
  have hlen := hA.len
  rw [stepsOf_len] at hlen
  unfold crsF at hc
  rw [t_Course_without_effect, u_tRet]
  refine lc_zip (a := st) (as.zip (stepsOf W [] ns)) (fun z => .ref z.1) (fun z => !z.2.2.1) (fun z => .int (z.2.1 : Nat)) (by rw [show (fun z : Addr × Stp => V.ref z.1) = V.ref ∘ Prod.fst from rfl, ← List.map_map, zip_fst hA]) (fun R r => by simpa [L2.start, hc, T.cl_Course, T.no_Course_steps] using r) (SqL.of hs) (by simp; rw [sz]; omega) ?_ ?_ ?_
  · intro z hz H' R k r
    obtain ⟨dx2, p, g0, g1⟩ := (zip_mem hA z hz).ex
    have g0' := k _ _ g0
    unfold stpF at g0'
    simpa [L2.start, g0', T.cl_Step, T.no_Step_has_effect] using r
  · intro z hz _ H' R k r
    obtain ⟨dx2, p, g0, g1⟩ := (zip_mem hA z hz).ex
    have g0' := k _ _ g0
    unfold stpF at g0'
    simpa [L2.start, g0', T.cl_Step, T.no_Step_number] using r
  · refine alloc_new fun p H1 n1 e1 k1 => q H1 p k1 n1 ?_
    unfold IL
    rw [e1]
    congr 2
    unfold idleOf
    have e2 : (stepsOf W [] ns) = (as.zip (stepsOf W [] ns)).map Prod.snd := (zip_snd hA).symm
    conv => rhs; rw [e2, List.filter_map, List.map_map]
    simp [Kcs5Neutral.nums, Function.comp_def]
theorem if_isN {D : Ends} {σ : L2.St} {H : Hp} {i : Nat} {x : V} {t u : TS} (s : σ[i]? = some (some x)) (h1 : x = .non → t D σ H) (h2 : x ≠ .non → u D σ H) : tIfS (tB (tIsN (tVar i))) t u D σ H := by
  have sl : ∀ R : V → Prop, slot σ i R ↔ R x := fun R => by simp [slot, s]
  simp only [u_tIfS, u_tB, u_tIsN, u_tVar, sl, asB_bl, decide_eq_true_eq]
  by_cases h : x = .non
  · rw [if_pos h]; exact h1 h
  · rw [if_neg h]; exact h2 h
theorem step_end (T : Txt K mg A) {D : Ends} {σ : L2.St} {v n : Nat} {c ca dx st p dx3 : Addr} {as : List Addr} {v0 : V} {b : Bool} {H : Hp} {ff : List (Str × V)} (s0 : σ[0]? = some (some (.ref c))) (s1 : σ[1]? = some (some (.ref ca))) (sv : σ[v]? = some (some (.ref p)))
    (hc : H c = some (.ins A.c_Course dx (crsF st))) (hs : H st = some (.lst (as.map V.ref))) (h0 : H ca = some (.ins A.c_Command dx3 ((("kind" : Str), v0) :: (("number" : Str), .int (n : Nat)) :: ff))) (hz : as.length ≤ 2000)
    (k : ∀ x dx5 H4, H x = none → H4 x = some (.ins A.c_Step dx5 (stpF (n : Nat) b p)) → H4 st = some (.lst ((as ++ [x]).map V.ref)) → Kp [st] H H4 → D.nx σ H4) :
    tDrop (tBM K "list" rAppend (tFld K (tVar 0) "steps") (tCons (tMake A.c_Step (sp_Step_init A) [] E0 (tCons (tFld K (tVar 1) "number") (tCons (tC (.bl b)) (tCons (tVar v) tNil)))) tNil)) D σ H := by
  have sl0 : ∀ R : V → Prop, slot σ 0 R ↔ R (.ref c) := fun R => by simp [slot, s0]
  have sl1 : ∀ R : V → Prop, slot σ 1 R ↔ R (.ref ca) := fun R => by simp [slot, s1]
  have slv : ∀ R : V → Prop, slot σ v R ↔ R (.ref p) := fun R => by simp [slot, sv]
  unfold crsF at hc
  simp [-upd_at, sl0, sl1, slv, hc, h0, T.cl_Course, T.no_Course_steps, T.cl_Command, T.no_Command_number]
  refine ⟨.inl ⟨rfl, _, SqL.of hs⟩, ?_⟩
  refine mk_step (Q := fun w H2 => lstO (H2 st) fun xs => xs.length < sizeLine ∧ D.nx σ (upd H2 st (.lst (xs ++ [w])))) fun x dx5 H2 n2 e2 k2 => ?_
  have xs : x ≠ st := (ne_of_none hs n2).symm
  simp [-upd_at, k2 _ _ hs]
  refine ⟨by rw [sz]; omega, ?_⟩
  exact k x dx5 _ n2 (by rw [upd_ne xs]; exact e2) (by rw [upd_same]; simp) ((Same.kp k2).trans (Kp.wr (by simp)))
theorem pure_Course_take_one (T : Txt K mg A) (vs : List V) (H : Hp) (Q : VK) (E : XK) (h : sp_Course_take_one A vs H Q E) : t_Course_take_one K A (sp_Course_sections_now A) (sp_Step_init A) (sp_effect_of A) { nx := fun _ H' => Q .non H', rt := Q } (L2.start ["self", "command", "before", "behind"] vs) H := by
  obtain ⟨c, dx, st, ca, as, W, ns, n, M, rfl, ok, hst, hc, hs, hA, ⟨m, hm, hn, hW, hO, hV⟩, hns, hz, q⟩ := h
  have hlen := hA.len
  rw [stepsOf_len] at hlen
  have hc' := hc
  unfold crsF at hc'
  obtain ⟨dx3, a1, l1, o1, t1, x1, h0, _⟩ := id hm
  have c0 := wo_le _ _ h0
  unfold cmdF at c0
  rw [hn] at c0
  have hL : LawOk (lawOf W [] ns) := lawOf_ok ns [] law_nil hns
  rw [t_Course_take_one, u_tSeq]
  simp [-u_tIfS, L2.start, hc']
  refine ⟨c, dx, st, as, W, ns, M, rfl, ok, hc, hs, hA, fun H1 p1 k1 hp1 => ?_⟩
  (try dsimp only)
  rw [u_tSeq]
  simp [-u_tIfS]
  refine ⟨ca, p1, m, n, W n, lawOf W [] ns, M, rfl, ok.same k1, hm.mono (vw_up k1), hn, hW, hO, hV, hL, hp1, fun H2 p2 l' k2 he hp2 => ?_, fun H2 k2 he => ?_⟩
  · have k12 := Same.tr k1 k2
    have e : stepOf W (lawOf W [] ns) n = (n, true, l') := by unfold stepOf; rw [he]
    (try dsimp only)
    refine if_isN rfl (fun z => by cases z) fun _ => ?_
    refine step_end T (v := 3) (p := p2) (n := n) (as := as) rfl rfl rfl (k12 _ _ hc) (k12 _ _ hs) (k12 _ _ c0) (by omega) fun x dx5 H4 n4 e4 es k4 => ?_
    have v4 : Same (wo H2 M) (wo H4 M) := vw_mono (k4.mono (by simp [hst]))
    refine q H4 x (fun b o nb eb => k4 b o nb (k12 _ _ eb)) es ?_
    rw [stepsOf_snoc, e]
    refine (steps_mono hA (Same.tr (vw_up k12) v4)).app (.cons ⟨dx5, p2, ?_, hp2.mono v4⟩ .nil)
    exact wo_new (ok.same k12) n4 e4
  · have k12 := Same.tr k1 k2
    have e : stepOf W (lawOf W [] ns) n = (n, false, lawOf W [] ns) := by unfold stepOf; rw [he]
    (try dsimp only)
    refine if_isN rfl (fun _ => ?_) (fun z => absurd rfl z)
    refine step_end T (v := 2) (p := p1) (n := n) (as := as) rfl rfl rfl (k12 _ _ hc) (k12 _ _ hs) (k12 _ _ c0) (by omega) fun x dx5 H4 n4 e4 es k4 => ?_
    have v4 : Same (wo H2 M) (wo H4 M) := vw_mono (k4.mono (by simp [hst]))
    refine q H4 x (fun b o nb eb => k4 b o nb (k12 _ _ eb)) es ?_
    rw [stepsOf_snoc, e]
    refine (steps_mono hA (Same.tr (vw_up k12) v4)).app (.cons ⟨dx5, p1, ?_, (hp1.mono (vw_up k2)).mono v4⟩ .nil)
    exact wo_new (ok.same k12) n4 e4
end
end LD

namespace LD
open PySem PySem.Spec PyProof.Rows L2
section
variable {K : PySem.W.Frag} {mg : Str → Option Value} {A : Ad}
theorem ints_refs {cs : List Nat} {i : Nat} : ((nums cs).map V.int ++ [V.int (-1)])[i]? = if i < cs.length then (cs[i]?).map (fun x => V.int (x : Nat)) else if i = cs.length then some (.int (-1)) else none := by
  by_cases h : i < cs.length
  · rw [if_pos h, List.getElem?_append_left (by simpa using h)]
    simp [Kcs5Neutral.nums]
    rfl
  · rw [if_neg h, List.getElem?_append_right (by simp; omega)]
    by_cases h2 : i = cs.length
    · rw [if_pos h2, h2]; simp
    · rw [if_neg h2, List.getElem?_eq_none]
      simp; omega
theorem pure_Course_keep_same (T : Txt K mg A) (vs : List V) (H : Hp) (Q : VK) (E : XK) (h : sp_Course_keep_same A vs H Q E) : t_Course_keep_same K A { nx := fun _ H' => Q .non H', rt := Q } (L2.start ["self", "commands", "numbers", "kept", "place", "step", "command"] vs) H := by
  obtain ⟨c, dx, st, cl, as, cas, W, ns, cs, M, rfl, ok, hcM, hc, hs, hA, hcl, hC, hz1, hz2, q⟩ := h
  have hlen := hA.len
  have clen := hC.len
  rw [stepsOf_len] at hlen
  have hc' := hc
  unfold crsF at hc'
  obtain ⟨kk, hkk, hkeep⟩ := keepM_eq (W := W) ns [] cs
  rw [t_Course_keep_same, u_tSeq]
  rw [u_tAsg, u_tOp]
  simp only [L2.start]
  refine lc_zip (a := cl) (cas.zip cs) (fun z => .ref z.1) (fun _ => true) (fun z => .int (z.2 : Nat)) (by rw [show (fun z : Addr × Nat => V.ref z.1) = V.ref ∘ Prod.fst from rfl, ← List.map_map, zip_fst hC]) (fun R r => by simpa using r) (SqL.of hcl) (by simp; rw [sz]; omega) (fun z _ H' R _ r => r) ?_ ?_
  · intro z hz _ H' R k r
    obtain ⟨m, hm, hn, _⟩ := zip_mem hC z hz
    obtain ⟨dx3, a1, l1, o1, t1, x1, h0, _⟩ := hm
    have c0 := k _ _ (wo_le _ _ h0)
    unfold cmdF at c0
    rw [hn] at c0
    simpa [c0, T.cl_Command, T.no_Command_number] using r
  rw [List.filter_eq_self.mpr (by simp)]
  refine alloc_new fun p0 H0 n0 e0 k0 => ?_
  have e0' : H0 p0 = some (.lst ((nums cs).map V.int)) := by
    rw [e0]
    congr 2
    conv => rhs; rw [← zip_snd hC]
    simp [Kcs5Neutral.nums]
  simp
  refine ⟨(by show 1 ≤ sizeLine; decide), alloc_new fun p1 H1 n1 e1 k1 => ?_⟩
  simp [k1 _ _ e0', e1]
  refine ⟨by rw [sz]; omega, alloc_new fun pn H2 n2 e2 k2 => ?_⟩
  rw [u_tSeq]
  simp
  refine alloc_new fun pk H3 n3 e3 k3 => ?_
  have k03 := Same.tr k0 (Same.tr k1 (Same.tr k2 k3))
  have n3' : H pk = none := Kp.none (S := []) (Same.kp (Same.tr k0 (Same.tr k1 k2))) (by simp) n3
  rw [u_tSeq]
  simp
  rw [u_tSeq]
  have un : ∀ {b : Addr} {u : HO}, H b = some u → b ≠ pk := fun e => ne_of_none e n3'
  have pnk : pn ≠ pk := ne_of_none e2 n3
  have e2' := k3 _ _ e2
  -- the end
  have fin : ∀ (H' : Hp) (kas : List Addr) (pl : V) (v w : Option V), Kp [pk] H3 H' → H' pk = some (.lst (kas.map V.ref)) → All2 (StepAt A (wo H M)) kas (stepsOf W [] (cs.take kk)) →
      sFld K (tVar 0) (tVar 3) "steps" { nx := fun x H' => Q V.non H', rt := Q } [some (.ref c), some (.ref cl), some (.ref pn), some (.ref pk), some pl, v, w] H' := by
    intro H' kas pl v w k e hK
    have cc : H' c = some (.ins A.c_Course dx [("steps", .ref st)]) := k _ _ (by simpa using un hc) (k03 _ _ hc')
    simp [-upd_at, cc, T.cl_Course, T.no_Course_steps]
    have pc : pk ≠ c := (un hc).symm
    have kf : Kp [c] H (upd H' c (.ins A.c_Course dx [("steps", .ref pk)])) := fun b o nb eb => by
      simp at nb
      rw [upd_ne nb]
      exact k b o (by simpa using un eb) (k03 _ _ eb)
    refine q _ pk kas kk kf n3' upd_same (by rw [upd_ne pc]; exact e) hkk ?_
    refine steps_mono hK (vw_same fun b o nb eb => ⟨?_, kf b o ?_ eb⟩)
    · simp [nb]; exact un eb
    · simp; exact fun z => nb (by rw [z]; exact hcM)
  obtain ⟨Pv, hP⟩ := hid (fun (i : Nat) (σ : L2.St) (H' : Hp) => ∃ (kas : List Addr) (ks : List Stp) (v : Option V), σ = [some (.ref c), some (.ref cl), some (.ref pn), some (.ref pk), some (.int (ks.length : Nat)), v, none] ∧ Kp [pk] H3 H' ∧ H' pk = some (.lst (kas.map V.ref)) ∧ All2 (StepAt A (wo H M)) kas ks ∧
    keepM (stepsOf W [] ns) cs = ks ++ keepM ((stepsOf W [] ns).drop i) (cs.drop ks.length) ∧ ks.length ≤ cs.length ∧ ks.length ≤ i)
  have kc : ∀ {H' : Hp}, Kp [pk] H3 H' → ∀ {b : Addr} {u : HO}, H b = some u → H' b = some u := @fun H' k b u e => k _ _ (by simpa using un e) (k03 _ _ e)
  refine for_seq (a := st) (xs := as.map V.ref) Pv (fun R r => by simpa [k03 _ _ hc', T.cl_Course, T.no_Course_steps] using r) (by rw [hP]; exact ⟨[], [], none, by simp, Kp.refl, by simpa using e3, .nil, by simp, by simp, by simp⟩) ?_ ?_ ?_
  · intro i σ H' hp
    rw [hP] at hp
    obtain ⟨kas, ks, v, rfl, k, _⟩ := hp
    exact SqL.of (kc k hs)
  · intro i x σ H' hx hp
    rw [hP] at hp
    obtain ⟨kas, ks, v, rfl, k, e, hK, f, hl1, hl2⟩ := hp
    rw [List.getElem?_map] at hx
    cases ea : as[i]? with
    | none => rw [ea] at hx; cases hx
    | some a =>
      rw [ea] at hx; cases hx
      obtain ⟨y, ey, hY⟩ := hA.get ea
      obtain ⟨dx2, p, g0, g1⟩ := id hY.ex
      have g0' := kc k (wo_le _ _ g0)
      unfold stpF at g0'
      have i2000 : i < as.length := (List.getElem?_eq_some_iff.mp ea).1
      rw [drop_get ey, keepM_cut] at f
      rw [u_gName, u_tIfS]
      simp [-u_tIfS, g0', T.cl_Step, T.no_Step_number]
      have num : ((nums cs).map V.int ++ [V.int (-1)])[ks.length]? = some (match cs[ks.length]? with | some x => V.int (x : Nat) | none => .int (-1)) := by
        rw [ints_refs]
        by_cases h : ks.length < cs.length
        · rw [if_pos h, List.getElem?_eq_getElem h]; rfl
        · rw [if_neg h, if_pos (by omega), List.getElem?_eq_none (by omega)]
      have e2k : H' pn = some (.lst ((nums cs).map V.int ++ [V.int (-1)])) := k _ _ (by simpa using pnk) (by rw [e2'])
      refine ix_of (SqL.of e2k) num ?_
      have kl := hK.len
      -- a step that isn't kept
      have other : y.1 ≠ (cs[ks.length]?).getD (y.1 + 1) → tIfS (tB (tFld K (tVar 5) "has_effect")) tBreak tNext
          { nx := Pv (i + 1), rt := Q, bk := sFld K (tVar 0) (tVar 3) "steps" { nx := fun x H' => Q V.non H', rt := Q }, ct := Pv (i + 1) } [some (.ref c), some (.ref cl), some (.ref pn), some (.ref pk), some (.int (ks.length : Nat)), some (.ref a), none] H' := by
        intro hne
        have f2 : keepM (stepsOf W [] ns) cs = ks ++ if y.2.1 = true then [] else keepM ((stepsOf W [] ns).drop (i + 1)) (cs.drop ks.length) := by
          rw [f]
          cases hd : cs.drop ks.length with
          | nil => rfl
          | cons x r =>
            have : cs[ks.length]? = some x := by
              have := congrArg List.head? hd
              rw [List.head?_drop] at this
              exact this
            rw [this] at hne
            simp only
            rw [if_neg (by simpa using hne)]
        simp [-u_sFld, g0', T.cl_Step, T.no_Step_has_effect]
        by_cases hb : y.2.1 = true
        · rw [if_pos hb] at f2 ⊢
          rw [List.append_nil, hkeep] at f2
          exact fin H' kas _ _ _ k e (by rw [f2]; exact hK)
        · rw [if_neg hb] at f2 ⊢
          rw [hP]
          exact ⟨kas, ks, some (.ref a), by simp, k, e, hK, f2, hl1, by omega⟩
      cases hcs : cs[ks.length]? with
      | none =>
        simp only [asB_bl, u_rEq, u_scal_ii, true_and]
        rw [if_neg (by simp <;> omega)]
        exact other (by rw [hcs]; simp)
      | some x =>
        simp only [asB_bl, u_rEq, u_scal_ii, true_and]
        by_cases hyx : y.1 = x
        · rw [if_pos (by simp [hyx])]
          rw [u_tSeq]
          simp [-upd_at, e]
          refine ⟨.inl ⟨rfl, _, SqL.of e⟩, by rw [sz]; omega, ?_⟩
          rw [hP]
          refine ⟨kas ++ [a], ks ++ [y], some (.ref a), by simp, k.trans (Kp.wr (by simp)), by rw [upd_same]; simp, hK.app (.cons hY .nil), ?_, ?_, by simp; omega⟩
          · rw [f, drop_get hcs]
            simp only
            rw [if_pos hyx]
            simp
          · have := (List.getElem?_eq_some_iff.mp hcs).1
            simp; omega
        · rw [if_neg (by simp <;> omega)]
          exact other (by rw [hcs]; simpa using hyx)
  · intro σ H' hp
    rw [hP] at hp
    obtain ⟨kas, ks, v, rfl, k, e, hK, f, hl1, hl2⟩ := hp
    have : (stepsOf W [] ns).drop (as.map V.ref).length = [] := by
      rw [List.length_map, hA.len, List.drop_length]
    rw [this] at f
    have e9 : keepM [] (cs.drop ks.length) = [] := by unfold keepM; rfl
    rw [e9, List.append_nil, hkeep] at f
    exact fin H' kas _ _ _ k e (by rw [f]; exact hK)
theorem for_seq2 {σ : L2.St} {H : Hp} {D : Ends} {tl : TE} {g : TG} {tb : TS} {S : Addr → Hp → Prop} (he : ∀ R : VK, (∀ a H1, S a H1 → R (.ref a) H1) → tl σ H R)
    (k : ∀ a H1, S a H1 → ∃ (xs : List V) (Pv : Nat → L2.St → Hp → Prop), Pv 0 σ H1 ∧ (∀ i σ H, Pv i σ H → SqL K H a xs) ∧
      (∀ i x σ H, xs[i]? = some x → Pv i σ H → g x σ H fun σ2 H2 => tb { D with nx := Pv (i + 1), ct := Pv (i + 1), bk := D.nx } σ2 H2) ∧ (∀ σ H, Pv xs.length σ H → D.nx σ H)) : tFor (iList K tl) g tb D σ H := by
  refine he _ fun a H1 hS => ?_
  obtain ⟨xs, Pv, h0, hl, hs, hd⟩ := k a H1 hS
  exact ⟨a, rfl, ⟨_, hl 0 _ _ h0⟩, for_list (K := K) (a := a) (xs := xs) Pv h0 (fun i σ H _ p => hl i σ H p) hs hd⟩
theorem pure_Course_take_all (T : Txt K mg A) (vs : List V) (H : Hp) (Q : VK) (E : XK) (h : sp_Course_take_all A vs H Q E) : t_Course_take_all K A (sp_Course_keep_same A) (sp_Course_sections_now A) (sp_Course_take_one A) { nx := fun _ H' => Q .non H', rt := Q } (L2.start ["self", "commands", "command"] vs) H := by
  obtain ⟨c, dx, st, cl, as, cas, W, ns, cs, M, rfl, ok, hcM, hc, hs, hA, hcl, hC, hz1, hz2, q⟩ := h
  have clen := hC.len
  have hc' := hc
  unfold crsF at hc'
  rw [t_Course_take_all, u_tSeq]
  simp [L2.start, hc']
  refine ⟨c, dx, st, cl, as, cas, W, ns, cs, M, rfl, ok, hcM, hc, hs, hA, hcl, hC, hz1, hz2, fun H1 st1 as1 k k1 n1 e1 es1 hk hA1 => ?_⟩
  (try dsimp only)
  rw [u_tSeq]
  have clc : cl ≠ c := ne_of hcl hc (by intro z; cases z)
  have hcl1 : H1 cl = some (.lst (cas.map V.ref)) := k1 _ _ (by simpa using clc) hcl
  have al := hA1.len
  rw [stepsOf_len, List.length_take] at al
  have e1' := e1
  unfold crsF at e1'
  have stc : st1 ≠ c := (ne_of_none hc n1).symm
  have ok1 : Ok (st1 :: M) H1 := fun b m => by
    simp at m
    rcases m with rfl | m
    · rw [es1]; simp
    · by_cases hb : b = c
      · rw [hb, e1]; simp
      · obtain ⟨o, e⟩ := Option.ne_none_iff_exists'.mp (ok b m)
        rw [k1 b o (by simpa using hb) e]; simp
  -- the list that is walked
  have hv01 : Same (wo H M) (wo H1 (st1 :: M)) := vw_same fun b o nb eb => ⟨by simp [nb]; exact ne_of_none eb n1, k1 b o (by simp; exact fun z => nb (by rw [z]; exact hcM)) eb⟩
  have hC1 : All2 (CmdN A W (wo H1 (st1 :: M))) cas cs := hC.imp fun _ _ r => r.mono hv01
  have wOk : ∀ j ∈ cs, WhatOk j (W j) := fun j hj => by
    obtain ⟨i, hi⟩ := List.getElem?_of_mem hj
    obtain ⟨a, _, m, _, _, _, hO, _⟩ := hC.get' hi
    exact hO
  refine for_seq2 (S := fun a H2 => Same H1 H2 ∧ H1 a = none ∧ H2 a = some (.lst ((cas.drop k).map V.ref))) ?_ ?_
  · intro R hR
    simp [e1', T.cl_Course, T.no_Course_steps]
    refine len_of es1 ?_
    rw [List.length_map, al, Nat.min_eq_left hk]
    simp only [asI_int]
    refine sl_of (SqL.of hcl1) (alloc_new fun p H2 n2 e2 k2 => hR p H2 ⟨k2, n2, ?_⟩)
    rw [e2, cutV_drop, List.map_drop]
  rintro pl H2 ⟨k2, npl, epl⟩
  have stpl : st1 ≠ pl := ne_of_none es1 npl
  have cpl : c ≠ pl := ne_of_none e1 npl
  obtain ⟨Pv, hP⟩ := hid (fun (i : Nat) (σ : L2.St) (H' : Hp) => ∃ (asi : List Addr) (v : Option V), σ = [some (.ref c), some (.ref cl), v] ∧ Kp [st1] H2 H' ∧ H' st1 = some (.lst (asi.map V.ref)) ∧ All2 (StepAt A (wo H' (st1 :: M))) asi (stepsOf W [] (cs.take (k + i))))
  have frame : ∀ {H' : Hp} {xs : List V}, Kp [st1] H2 H' → H' st1 = some (.lst xs) → Kp [c] H H' ∧ H' c = some (.ins A.c_Course dx (crsF st1)) ∧ Same (wo H1 (st1 :: M)) (wo H' (st1 :: M)) ∧ Ok (st1 :: M) H' := fun {H' xs} k' es => by
    have h1 : ∀ b o, b ≠ st1 → H1 b = some o → H' b = some o := fun b o nb eb => k' b o (by simpa using nb) (k2 _ _ eb)
    refine ⟨fun b o nb eb => h1 b o (ne_of_none eb n1) (k1 b o nb eb), h1 _ _ stc.symm e1, vw_same fun b o nb eb => ⟨nb, h1 b o (by simp at nb; exact nb.1) eb⟩, ?_⟩
    intro b m
    by_cases hb : b = st1
    · rw [hb, es]; simp
    · obtain ⟨o, e⟩ := Option.ne_none_iff_exists'.mp (ok1 b m)
      rw [h1 b o hb e]; simp
  refine ⟨(cas.drop k).map V.ref, Pv, ?_, ?_, ?_, ?_⟩
  · rw [hP]
    exact ⟨as1, none, rfl, Kp.refl, k2 _ _ es1, steps_mono hA1 (vw_up k2)⟩
  · intro i σ H' hp
    rw [hP] at hp
    obtain ⟨asi, v, rfl, k', _⟩ := hp
    exact SqL.of (k' _ _ (by simpa using stpl.symm) epl)
  · intro i x σ H' hx hp
    rw [hP] at hp
    obtain ⟨asi, v, rfl, k', es, hAi⟩ := hp
    rw [List.getElem?_map, List.getElem?_drop] at hx
    cases ea : cas[k + i]? with
    | none => rw [ea] at hx; cases hx
    | some a =>
      rw [ea] at hx; cases hx
      obtain ⟨n, en, hN⟩ := hC1.get ea
      obtain ⟨f1, f2, f3, f4⟩ := frame k' es
      have f2' := f2
      unfold crsF at f2'
      have hki := (List.getElem?_eq_some_iff.mp en).1
      simp [f2']
      refine ⟨c, dx, st1, a, asi, W, cs.take (k + i), n, st1 :: M, rfl, f4, by simp, f2, es, hAi, hN.mono f3, fun j hj => wOk j (List.mem_of_mem_take hj), by simp; omega, fun H3 a3 k3 e3 hA3 => ?_⟩
      (try dsimp only)
      rw [hP]
      refine ⟨asi ++ [a3], some (.ref a), by simp, k'.trans k3, e3, ?_⟩
      rw [show k + (i + 1) = (k + i) + 1 from by omega, List.take_add_one, en]
      exact hA3
  · intro σ H' hp
    rw [hP] at hp
    obtain ⟨asi, v, rfl, k', es, hAi⟩ := hp
    obtain ⟨f1, f2, f3, f4⟩ := frame k' es
    have f2' := f2
    unfold crsF at f2'
    have e9 : cs.take (k + ((cas.drop k).map V.ref).length) = cs := List.take_of_length_le (by simp; omega)
    rw [e9] at hAi
    simp [f2']
    refine ⟨c, dx, st1, asi, W, cs, st1 :: M, rfl, f4, f2, es, hAi, fun H3 p3 k3 hp3 => ?_⟩
    exact q H3 st1 asi p3 (f1.trans (Same.kp k3)) n1 (k3 _ _ f2) (k3 _ _ es) (steps_mono hAi (vw_up k3)) hp3
end
end LD

namespace LD
open PySem PySem.Spec PyProof.Rows L2
/-! ### record.py, laws.py: commands that are looked at -/
abbrev NC := Nat × Kcs5.Command
abbrev ZC := Addr × NC
def CmdR (A : Ad) (acts : List Nat) (I : Hp) (a : Addr) (x : NC) : Prop := ∃ m, CmdAt A I a m ∧ m.number = (x.1 : Nat) ∧ m.law = (x.2.law : Nat) ∧ m.begins = (x.2.from_ : Nat) ∧ m.till = (x.2.till : Nat) ∧ WhatRel m x.2.what ∧ ∃ k : Nat, m.act = (k : Nat) ∧ acts[k]? = some x.2.known
theorem CmdR.mono {A : Ad} {acts : List Nat} {I I' : Hp} {a : Addr} {x : NC} (h : CmdR A acts I a x) (k : Same I I') : CmdR A acts I' a x := by
  obtain ⟨m, h1, h2⟩ := h
  exact ⟨m, h1.mono k, h2⟩
/-- the command's object itself -/
structure CF (A : Ad) (acts : List Nat) (H : Hp) (a : Addr) (x : NC) : Prop where
  ex : ∃ (dx : Addr) (kd ac fo tg : Int) (v1 v2 v3 v4 v5 : V), H a = some (.ins A.c_Command dx [("kind", .int kd), ("number", .int (x.1 : Nat)), ("act", .int ac), ("law", .int (x.2.law : Nat)), ("begins", .int (x.2.from_ : Nat)), ("till", .int (x.2.till : Nat)), ("follow", .int fo), ("target", .int tg), ("after", v1), ("label", v2), ("old", v3), ("to", v4), ("text", v5)]) ∧
    (∃ k : Nat, ac = (k : Nat) ∧ acts[k]? = some x.2.known) ∧ (kd = 7 ↔ Kcs5.isVoid x.2.what = true) ∧ (∀ n, x.2.what = .void n → tg = (n : Nat))
theorem CmdR.cf {A : Ad} {acts : List Nat} {H : Hp} {a : Addr} {x : NC} (h : CmdR A acts H a x) : CF A acts H a x := by
  obtain ⟨m, ⟨dx, a1, l1, o1, t1, x1, h0, _⟩, e1, e2, e3, e4, hW, hk⟩ := h
  unfold cmdF at h0
  rw [e1, e2, e3, e4] at h0
  refine ⟨dx, m.kind, m.act, m.follow, m.target, _, _, _, _, _, h0, hk, ?_, ?_⟩
  · cases hw : x.2.what <;> rw [hw] at hW <;> simp [WhatRel] at hW <;> simp [Kcs5.isVoid, hW]
  · intro n hn
    rw [hn] at hW
    exact hW.2
theorem CF.mono {A : Ad} {acts : List Nat} {I I' : Hp} {a : Addr} {x : NC} (h : CF A acts I a x) (k : Same I I') : CF A acts I' a x := by
  obtain ⟨dx, kd, ac, fo, tg, v1, v2, v3, v4, v5, h0, h1⟩ := h.ex
  exact ⟨dx, kd, ac, fo, tg, v1, v2, v3, v4, v5, k _ _ h0, h1⟩
def ZL (H : Hp) (p : Addr) (zs : List ZC) : Prop := H p = some (.lst (zs.map fun z => V.ref z.1))
def recF (dl cl : Addr) : List (Str × V) := [("days", .ref dl), ("commands", .ref cl)]
def kn (day : Nat) (z : ZC) : Bool := decide (z.2.2.known ≤ day)
def sp_Record_known_on (A : Ad) : Sp := fun vs H Q _ => ∃ (r dx dl cl : Addr) (acts : List Nat) (zs : List ZC) (day : Nat), vs = [.ref r, .int (day : Nat)] ∧ H r = some (.ins A.c_Record dx (recF dl cl)) ∧ IL H dl (nums acts) ∧ ZL H cl zs ∧ (∀ z ∈ zs, CF A acts H z.1 z.2) ∧ zs.length ≤ 2000 ∧
  ∀ H' p, Same H H' → H p = none → ZL H' p (zs.filter (kn day)) → Q (.ref p) H'
/-- those that aren't void -/
def vld (zs : List ZC) : List ZC := zs.filter fun z => !Kcs5.isVoid z.2.2.what && !(Kcs5.voids (zs.map Prod.snd)).contains z.2.1
def sp_Record_valid_on (A : Ad) : Sp := fun vs H Q _ => ∃ (r dx dl cl : Addr) (acts : List Nat) (zs : List ZC) (day : Nat), vs = [.ref r, .int (day : Nat)] ∧ H r = some (.ins A.c_Record dx (recF dl cl)) ∧ IL H dl (nums acts) ∧ ZL H cl zs ∧ (∀ z ∈ zs, CF A acts H z.1 z.2) ∧ zs.length ≤ 2000 ∧
  ∀ H' p, Same H H' → H p = none → ZL H' p (vld (zs.filter (kn day))) → Q (.ref p) H'
def cnt (day : Nat) (z : ZC) : Bool := decide (z.2.2.from_ ≤ day) && (z.2.2.till == 0 || decide (day < z.2.2.till))
def sp_counting_on (A : Ad) : Sp := fun vs H Q _ => ∃ (cl : Addr) (acts : List Nat) (zs : List ZC) (day : Nat), vs = [.ref cl, .int (day : Nat)] ∧ ZL H cl zs ∧ (∀ z ∈ zs, CF A acts H z.1 z.2) ∧ zs.length ≤ 2000 ∧
  ∀ H' p, Same H H' → H p = none → ZL H' p (zs.filter (cnt day)) → Q (.ref p) H'
def zord (z w : ZC) : Bool := ord z.2 w.2
def qLam : Str := "in_order.<locals>.<lambda>"
def sp_in_order (K : PySem.W.Frag) (A : Ad) : Sp := fun vs H Q _ => ∃ (cl : Addr) (acts : List Nat) (zs : List ZC), vs = [.ref cl] ∧ ZL H cl zs ∧ (∀ z ∈ zs, CF A acts H z.1 z.2) ∧ LamX.TabS H A.P_in_order qLam ∧
  ∀ H2 H' p, LamX.ExtN H H2 → LamX.TabS H2 A.P_in_order qLam → H2 p = none → Same H2 H' → LamX.TabS H' A.P_in_order qLam → ZL H' p (zs.mergeSort zord) → Q (.ref p) H'
def sp_days_above (A : Ad) : Sp := fun vs H Q _ => ∃ (cl : Addr) (acts : List Nat) (zs : List ZC) (on : Nat), vs = [.ref cl, .int (on : Nat)] ∧ ZL H cl zs ∧ (∀ z ∈ zs, CF A acts H z.1 z.2) ∧ zs.length ≤ 2000 ∧
  ∀ H' p (ds : List Nat), Same H H' → H p = none → IL H' p (nums ds) → ds.Pairwise (· ≤ ·) → (∀ d, d ∈ ds ↔ on < d ∧ ∃ z ∈ zs, z.2.2.from_ = d ∨ z.2.2.till = d) → Q (.ref p) H'
section
variable {K : PySem.W.Frag} {mg : Str → Option Value} {A : Ad}
theorem pure_Record_known_on (T : Txt K mg A) (vs : List V) (H : Hp) (Q : VK) (E : XK) (h : sp_Record_known_on A vs H Q E) : t_Record_known_on K A { nx := fun _ H' => Q .non H', rt := Q } (L2.start ["self", "day", "command"] vs) H := by
  obtain ⟨r, dx, dl, cl, acts, zs, day, rfl, hr, hdl, hcl, hZ, hz, q⟩ := h
  unfold recF at hr
  rw [t_Record_known_on, u_tRet]
  refine lc_zip (a := cl) zs (fun z => .ref z.1) (kn day) (fun z => .ref z.1) rfl (fun R r => by simpa [L2.start, hr, T.cl_Record, T.no_Record_commands] using r) (SqL.of hcl) (by simp; rw [sz]; omega) ?_ ?_ ?_
  · intro z hz H' R k r
    obtain ⟨dx2, kd, ac, fo, tg, v1, v2, v3, v4, v5, h0, ⟨j, rfl, hj⟩, _⟩ := (hZ z hz).ex
    simp [L2.start, k _ _ hr, k _ _ h0, T.cl_Record, T.no_Record_days, T.cl_Command, T.no_Command_act]
    refine ix_of (SqL.of (k _ _ hdl)) (nums_get hj) ?_
    simp
    unfold kn at r
    exact r
  · intro z hz _ H' R k r
    simpa [L2.start] using r
  · exact alloc_new fun p H1 n1 e1 k1 => q H1 p k1 n1 e1
theorem pure_counting_on (T : Txt K mg A) (vs : List V) (H : Hp) (Q : VK) (E : XK) (h : sp_counting_on A vs H Q E) : t_counting_on K A { nx := fun _ H' => Q .non H', rt := Q } (L2.start ["commands", "day", "command"] vs) H := by
  obtain ⟨cl, acts, zs, day, rfl, hcl, hZ, hz, q⟩ := h
  rw [t_counting_on, u_tRet]
  refine lc_zip (a := cl) zs (fun z => .ref z.1) (cnt day) (fun z => .ref z.1) rfl (fun R r => by simpa [L2.start] using r) (SqL.of hcl) (by simp; rw [sz]; omega) ?_ ?_ ?_
  · intro z hz H' R k r
    obtain ⟨dx2, kd, ac, fo, tg, v1, v2, v3, v4, v5, h0, _⟩ := (hZ z hz).ex
    simp [L2.start, k _ _ h0, T.cl_Command, T.no_Command_begins, T.no_Command_till]
    unfold cnt at r
    by_cases h1 : z.2.2.from_ ≤ day
    · rw [if_pos h1]
      by_cases h2 : z.2.2.till = 0
      · rw [if_pos h2]; simpa [h1, h2] using r
      · rw [if_neg h2]
        have e : (z.2.2.till == 0) = false := by simpa using h2
        simpa [h1, e] using r
    · rw [if_neg h1]; simpa [h1] using r
  · intro z hz _ H' R k r
    simpa [L2.start] using r
  · exact alloc_new fun p H1 n1 e1 k1 => q H1 p k1 n1 e1
theorem pure_in_order (T : Txt K mg A) (vs : List V) (H : Hp) (Q : VK) (E : XK) (h : sp_in_order K A vs H Q E) : t_in_order K A { nx := fun _ H' => Q .non H', rt := Q } (L2.start ["commands"] vs) H := by
  obtain ⟨cl, acts, zs, rfl, hcl, hZ, hT, q⟩ := h
  let kf : Addr → Int × Int := fun a => match zs.find? (fun z => z.1 == a) with
    | some z => ((z.2.2.from_ : Int), (z.2.1 : Int))
    | none => (0, 0)
  have kz : ∀ z ∈ zs, kf z.1 = ((z.2.2.from_ : Int), (z.2.1 : Int)) := fun z hz => by
    show (match zs.find? (fun w => w.1 == z.1) with | some z => ((z.2.2.from_ : Int), (z.2.1 : Int)) | none => (0, 0)) = _
    cases e : zs.find? (fun w => w.1 == z.1) with
    | none =>
      rw [List.find?_eq_none] at e
      exact absurd (by simp) (e z hz)
    | some w =>
      have hw := List.mem_of_find?_eq_some e
      have ew : w.1 = z.1 := by simpa using List.find?_some e
      obtain ⟨dx2, kd, ac, fo, tg, v1, v2, v3, v4, v5, h0, _⟩ := (hZ z hz).ex
      obtain ⟨dx2', kd', ac', fo', tg', v1', v2', v3', v4', v5', h0', _⟩ := (hZ w hw).ex
      rw [ew, h0] at h0'
      simp at h0'
      simp
      omega
  rw [t_in_order, u_tRet]
  refine ⟨.ref cl, rfl, cl, zs.map Prod.fst, kf, rfl, SqL.of (by rw [List.map_map]; exact hcl), fun c hc => ?_, hT, fun H2 p kx ht np => ?_⟩
  · rw [List.mem_map] at hc
    obtain ⟨z, hz, rfl⟩ := hc
    obtain ⟨dx2, kd, ac, fo, tg, v1, v2, v3, v4, v5, h0, _⟩ := (hZ z hz).ex
    refine ⟨A.c_Command, dx2, _, h0, T.cl_Command, T.no_Command_begins, T.no_Command_number, ?_, ?_⟩
    · rw [kz z hz]; simp [lk_cons]
    · rw [kz z hz]; simp [lk_cons]
  · have e1 : (zs.map Prod.fst).mergeSort (keyLe kf) = (zs.mergeSort zord).map Prod.fst := by
      rw [List.map_mergeSort]
      intro z hz w hw
      unfold zord ord keyLe
      rw [kz z hz, kz w hw, Bool.eq_iff_iff]
      simp
      omega
    have up : Same H2 (upd H2 p (.lst (((zs.map Prod.fst).mergeSort (keyLe kf)).map V.ref))) := fun b o e => (upd_ne (ne_of_none e np)).trans e
    refine q H2 _ p kx ht np up (ht.ext up) ?_
    unfold ZL
    rw [upd_same, e1, List.map_map]
    rfl
theorem voids_cons (x : NC) (l : List NC) : Kcs5.voids (x :: l) = if (Kcs5.voids l).contains x.1 = true then Kcs5.voids l else match x.2.what with
    | .void n => n :: Kcs5.voids l
    | _ => Kcs5.voids l := rfl
theorem pure_Record_valid_on (T : Txt K mg A) (vs : List V) (H : Hp) (Q : VK) (E : XK) (h : sp_Record_valid_on A vs H Q E) : t_Record_valid_on K A (sp_Record_known_on A) { nx := fun _ H' => Q .non H', rt := Q } (L2.start ["self", "day", "known", "void", "command"] vs) H := by
  obtain ⟨r, dx, dl, cl, acts, zs0, day, rfl, hr, hdl, hcl, hZ, hz, q⟩ := h
  have hr' := hr
  unfold recF at hr'
  rw [t_Record_valid_on, u_tSeq]
  simp [L2.start, hr']
  refine ⟨r, dx, dl, cl, acts, zs0, day, rfl, hr, hdl, hcl, hZ, hz, fun H1 p1 k1 n1 e1 => ?_⟩
  have hZ1 : ∀ z ∈ zs0.filter (kn day), CF A acts H1 z.1 z.2 := fun z hz => (hZ z (List.mem_filter.mp hz).1).mono k1
  have hz1 : (zs0.filter (kn day)).length ≤ 2000 := Nat.le_trans (List.length_filter_le _ _) hz
  generalize zs0.filter (kn day) = zs at *
  (try dsimp only)
  rw [u_tSeq]
  simp
  refine alloc_new fun pv H2 n2 e2 k2 => ?_
  have n2' : H pv = none := Kp.none (S := []) (Same.kp k1) (by simp) n2
  rw [u_tSeq]
  have ppv : p1 ≠ pv := ne_of_none e1 n2
  obtain ⟨Pv, hP⟩ := hid (fun (n : Nat) (σ : L2.St) (H' : Hp) => ∃ (kvs : List (Key × V)) (v : Option V), σ = [some (.ref r), some (.int (day : Nat)), some (.ref p1), some (.ref pv), v] ∧ Kp [pv] H2 H' ∧ H' pv = some (.dK kvs) ∧ (∀ j : Nat, (valV kvs (.inl (j : Int))).isSome = (Kcs5.voids ((zs.drop (zs.length - n)).map Prod.snd)).contains j) ∧ kvs.length ≤ n)
  have kc : ∀ {H' : Hp}, Kp [pv] H2 H' → Same H1 H' := @fun H' k b u e => k _ _ (by simp; exact ne_of_none e n2) (k2 _ _ e)
  refine for_rev (a := p1) (xs := zs.map fun z => V.ref z.1) Pv (fun R r => by simpa using r) (by rw [hP]; exact ⟨[], none, rfl, Kp.refl, e2, by simp [valV, Kcs5.voids], by simp⟩) ?_ ?_ ?_
  · intro n σ H' hp
    rw [hP] at hp
    obtain ⟨kvs, v, rfl, k, _⟩ := hp
    exact SqL.of (kc k _ _ e1)
  · intro n x σ H' hn hx hp
    rw [hP] at hp
    obtain ⟨kvs, v, rfl, k, e, hv, hl⟩ := hp
    rw [List.length_map] at hn hx
    rw [List.getElem?_map] at hx
    cases ez : zs[zs.length - 1 - n]? with
    | none => rw [ez] at hx; cases hx
    | some z =>
      rw [ez] at hx; cases hx
      have hm : z ∈ zs := List.mem_of_getElem? ez
      obtain ⟨dx2, kd, ac, fo, tg, v1, v2, v3, v4, v5, h0, _, hk7, htg⟩ := ((hZ1 z hm).mono (kc k)).ex
      have hd : zs.drop (zs.length - (n + 1)) = z :: zs.drop (zs.length - n) := by
        have := drop_get ez
        rw [show zs.length - (n + 1) = zs.length - 1 - n from by omega, this, show zs.length - 1 - n + 1 = zs.length - n from by omega]
      have hvc := voids_cons z.2 ((zs.drop (zs.length - n)).map Prod.snd)
      have stay : Kcs5.voids (z.2 :: (zs.drop (zs.length - n)).map Prod.snd) = Kcs5.voids ((zs.drop (zs.length - n)).map Prod.snd) → Pv (n + 1) [some (.ref r), some (.int (day : Nat)), some (.ref p1), some (.ref pv), some (.ref z.1)] H' := fun hs => by
        rw [hP]
        refine ⟨kvs, _, rfl, k, e, fun j => ?_, by omega⟩
        rw [hd, List.map_cons, hs]
        exact hv j
      simp [-u_tIfS, h0]
      rw [u_tIfS]
      simp [h0, T.cl_Command, T.no_Command_kind]
      by_cases h7 : kd = 7
      · rw [if_pos h7]
        have hvd := hk7.mp h7
        obtain ⟨tn, htn⟩ : ∃ tn, z.2.2.what = .void tn := by
          cases hw : z.2.2.what <;> rw [hw] at hvd <;> simp [Kcs5.isVoid] at hvd
          exact ⟨_, rfl⟩
        rw [htn] at hvc
        simp only at hvc
        have htg' := htg tn htn
        subst htg'
        unfold tDNotIn
        simp [h0, T.cl_Command, T.no_Command_number]
        refine ⟨_, DGet.k (k := Sum.inl (z.2.1 : Int)) e, ?_⟩
        have hvz := hv z.2.1
        by_cases hc : (Kcs5.voids ((zs.drop (zs.length - n)).map Prod.snd)).contains z.2.1 = true
        · rw [if_pos hc] at hvc
          rw [hc] at hvz
          rw [if_neg (by intro z0; rw [z0] at hvz; cases hvz)]
          exact stay hvc
        · rw [if_neg hc] at hvc
          have hc' : (Kcs5.voids ((zs.drop (zs.length - n)).map Prod.snd)).contains z.2.1 = false := by simpa using hc
          rw [hc'] at hvz
          rw [if_pos (by simpa using hvz)]
          unfold sDPut
          simp [h0, T.cl_Command, T.no_Command_target]
          refine ⟨_, DPut.k (k := Sum.inl (tn : Int)) e (by rw [sz]; omega), ?_⟩
          rw [hP]
          refine ⟨_, _, rfl, k.trans (Kp.wr (by simp)), upd_same, fun j => ?_, by have := length_putK kvs (Sum.inl (tn : Int)) (.bl true); omega⟩
          rw [valV_put, hd, List.map_cons, hvc]
          by_cases hj : j = tn
          · subst hj; simp
          · have h1 : ¬ (Sum.inl (j : Int) : Key) = Sum.inl (tn : Int) := by simp; omega
            rw [if_neg h1, hv j]
            simp [hj]
      · rw [if_neg h7]
        refine stay ?_
        rw [hvc]
        split
        · rfl
        · cases hw : z.2.2.what with
          | void tn => exact absurd (hk7.mpr (by rw [hw]; rfl)) h7
          | _ => rfl
  · intro σ H' hp
    rw [hP] at hp
    obtain ⟨kvs, v, rfl, k, e, hv, hl⟩ := hp
    rw [List.length_map, Nat.sub_self, List.drop_zero] at hv
    (try dsimp only)
    rw [u_tRet]
    refine lc_zip (a := p1) zs (fun z => .ref z.1) (fun z => !Kcs5.isVoid z.2.2.what && !(Kcs5.voids (zs.map Prod.snd)).contains z.2.1) (fun z => .ref z.1) rfl (fun R r => by simpa using r) (SqL.of (kc k _ _ e1)) (by simp; rw [sz]; omega) ?_ ?_ ?_
    · intro z hm H3 R k3 r
      obtain ⟨dx2, kd, ac, fo, tg, v1, v2, v3, v4, v5, h0, _, hk7, htg⟩ := (((hZ1 z hm).mono (kc k)).mono k3).ex
      simp [h0, T.cl_Command, T.no_Command_kind]
      by_cases h7 : kd = 7
      · rw [if_pos h7]
        rw [hk7.mp h7] at r
        simpa using r
      · rw [if_neg h7]
        have : Kcs5.isVoid z.2.2.what = false := by
          cases hw : Kcs5.isVoid z.2.2.what with
          | false => rfl
          | true => exact absurd (hk7.mpr hw) h7
        rw [this] at r
        unfold tDNotIn
        simp [h0, T.cl_Command, T.no_Command_number]
        refine ⟨_, DGet.k (k := Sum.inl (z.2.1 : Int)) (k3 _ _ e), ?_⟩
        have hvz := hv z.2.1
        rw [← hvz] at r
        simpa using r
    · intro z hm _ H3 R k3 r
      simpa using r
    · refine alloc_new fun p3 H3 n3 e3 k3 => q H3 p3 (Same.tr k1 (Same.tr (kc k) k3)) ?_ e3
      exact Kp.none (S := []) (Same.kp (Same.tr k1 (kc k))) (by simp) n3
end
end LD

namespace LD
open PySem PySem.Spec PyProof.Rows L2
theorem nums_mem {d : Nat} {l : List Nat} : (d : Int) ∈ nums l ↔ d ∈ l := by
  simp only [Kcs5Neutral.nums, List.mem_map]
  constructor
  · rintro ⟨a, ha, e⟩
    have : a = d := by omega
    rw [← this]; exact ha
  · intro h; exact ⟨d, h, rfl⟩
/-- a whole number as a key -/
def kI (j : Nat) : Key := Sum.inl (j : Int)
theorem kI_inj {a b : Nat} : kI a = kI b ↔ a = b := by
  unfold kI
  constructor
  · intro h; have := Sum.inl.inj h; omega
  · rintro rfl; rfl
section
variable {σ : L2.St} {H : Hp} {Q : VK} {K : PySem.W.Frag}
theorem keys_put {κ : Type} [DecidableEq κ] (kvs : List (κ × V)) (k : κ) (v : V) : (putK kvs k v).map (·.1) = if k ∈ kvs.map (·.1) then kvs.map (·.1) else kvs.map (·.1) ++ [k] := by
  unfold putK
  by_cases h : (kvs.any fun kv => decide (kv.1 = k)) = true
  · rw [if_pos h, if_pos]
    · rw [List.map_map]
      apply List.map_congr_left
      intro x _
      show (if x.1 = k then (x.1, v) else x).1 = x.1
      split <;> rfl
    · rw [List.any_eq_true] at h
      obtain ⟨x, hx, e⟩ := h
      exact List.mem_map.mpr ⟨x, hx, by simpa using e⟩
  · rw [if_neg h, if_neg]
    · simp
    · intro hm
      rw [List.mem_map] at hm
      obtain ⟨x, hx, e⟩ := hm
      exact h (List.any_eq_true.mpr ⟨x, hx, by simpa using e⟩)
/-- over the keys of a dict that is locked meanwhile -/
theorem lc_keys {tl : TE} {tt : TT} {te : TE} {d : Addr} {kvs : List (Key × V)} {i : Nat} (ks : List Nat) (kp : Nat → Bool) (hk : kvs.map (·.1) = ks.map kI) (he : ∀ (H' : Hp) (R : VK), R (.ref d) H' → tl σ H' R) (hd : H d = some (.dK kvs)) (hz : kvs.length ≤ sizeLine)
    (ht : ∀ j ∈ ks, ∀ (H' : Hp) (R : Bool → Hp → Prop), R (kp j) H' → tt (σ.set i (some (.int (j : Nat)))) H' R)
    (hf : ∀ j ∈ ks, ∀ (H' : Hp) (R : VK), R (.int (j : Nat)) H' → te (σ.set i (some (.int (j : Nat)))) H' R)
    (q : alloc H (.lst ((nums (ks.filter kp)).map V.int)) fun p H2 => Q (.ref p) H2) : tLockE (tLc (iKeys tl) (gName i) tt te [i]) σ H Q := by
  refine ⟨d, _, hd, trivial, fun od => ?_⟩
  refine he _ _ ⟨d, od, rfl, .inl ⟨kvs, upd_same, fun D hD => ?_⟩⟩
  have dD : D ≠ d := fun e => by rw [e, upd_same] at hD; cases hD
  have hD0 : H D = none := by rw [upd_ne dD] at hD; exact hD
  have wp : ∀ v, wipe (σ.set i v) [i] = wipe σ [i] := fun v => by simp [wipe]
  have kl : kvs.length = ks.length := by have := congrArg List.length hk; simpa using this
  refine lc_it (walk_keys (d := d) (o := od) (kvs := kvs)) (fun n H' => H' = upd (upd H d (.frz od (.dK kvs))) D (.lst ((nums ((ks.take n).filter kp)).map V.int))) rfl ?_ ?_ ?_
  · rintro n H' _ rfl
    rw [upd_ne dD.symm, upd_same]
  · rintro n x H1 H' hn rfl ⟨rfl, k, v, ek, rfl⟩
    have ej : ∃ j, ks[n]? = some j ∧ k = kI j := by
      have := congrArg (·[n]?) hk
      simp only [List.getElem?_map, ek, Option.map_some] at this
      cases e : ks[n]? with
      | none => rw [e] at this; cases this
      | some j => rw [e] at this; exact ⟨j, rfl, by simpa using this⟩
    obtain ⟨j, ej, rfl⟩ := ej
    have hm : j ∈ ks := List.mem_of_getElem? ej
    show gName i (.int (j : Int)) _ _ _
    simp only [u_gName]
    have ew : (wipe σ [i]).set i (some (.int (j : Nat))) = σ.set i (some (.int (j : Nat))) := by simp [wipe]
    rw [ew]
    refine ⟨wp _, ht j hm _ _ ?_⟩
    have tk : (ks.take (n + 1)).filter kp = (ks.take n).filter kp ++ if kp j = true then [j] else [] := by
      rw [List.take_add_one, ej, Option.toList_some, List.filter_append]
      simp [List.filter_cons]
    cases e : kp j with
    | true =>
      rw [if_pos rfl]
      refine hf j hm _ _ ⟨_, upd_same, ?_, ?_⟩
      · have h2 := List.length_filter_le kp (ks.take n)
        rw [List.length_take] at h2
        simp
        omega
      · rw [tk, e, if_pos rfl, upd_upd']
        simp [Kcs5Neutral.nums]
    | false =>
      rw [if_neg (by simp), tk, e, if_neg (by simp), List.append_nil]
  · rintro H' rfl
    refine ⟨by rw [upd_ne dD.symm, upd_same], ?_⟩
    have := q D hD0
    rw [kl, List.take_length]
    have e9 : upd (upd (upd H d (.frz od (.dK kvs))) D (.lst ((nums (ks.filter kp)).map V.int))) d (.dK kvs) = upd H D (.lst ((nums (ks.filter kp)).map V.int)) := by
      funext b
      by_cases h1 : b = d
      · subst h1; rw [upd_same, upd_ne dD.symm, hd]
      · rw [upd_ne h1]
        by_cases h2 : b = D
        · subst h2; rw [upd_same, upd_same]
        · rw [upd_ne h2, upd_ne h2, upd_ne h1]
    rw [e9]
    exact this
end
section
variable {K : PySem.W.Frag} {mg : Str → Option Value} {A : Ad}
/-- one key more -/
theorem put_nat {kvs : List (Key × V)} {ks : List Nat} (h : kvs.map (·.1) = ks.map kI) (j : Nat) (v : V) : ∃ ks' : List Nat, (putK kvs (kI j) v).map (·.1) = ks'.map kI ∧ ∀ d, d ∈ ks' ↔ d ∈ ks ∨ d = j := by
  rw [keys_put, h]
  by_cases hm : kI j ∈ ks.map kI
  · refine ⟨ks, by rw [if_pos hm], fun d => ⟨fun h => .inl h, ?_⟩⟩
    rintro (h | rfl)
    · exact h
    · rw [List.mem_map] at hm
      obtain ⟨a, ha, e⟩ := hm
      have : a = d := kI_inj.mp e
      rw [← this]; exact ha
  · refine ⟨ks ++ [j], by rw [if_neg hm]; simp, fun d => by simp⟩
theorem pure_days_above (T : Txt K mg A) (vs : List V) (H : Hp) (Q : VK) (E : XK) (h : sp_days_above A vs H Q E) : t_days_above K A { nx := fun _ H' => Q .non H', rt := Q } (L2.start ["commands", "on", "days", "command", "day"] vs) H := by
  obtain ⟨cl, acts, zs, on, rfl, hcl, hZ, hz, q⟩ := h
  rw [t_days_above, u_tSeq]
  simp [L2.start]
  refine alloc_new fun pv H2 n2 e2 k2 => ?_
  rw [u_tSeq]
  obtain ⟨Pv, hP⟩ := hid (fun (n : Nat) (σ : L2.St) (H' : Hp) => ∃ (kvs : List (Key × V)) (ks : List Nat) (v : Option V), σ = [some (.ref cl), some (.int (on : Nat)), some (.ref pv), v, none] ∧ Kp [pv] H2 H' ∧ H' pv = some (.dK kvs) ∧ kvs.map (·.1) = ks.map kI ∧ (∀ d, d ∈ ks ↔ ∃ z ∈ zs.take n, z.2.2.from_ = d ∨ z.2.2.till = d) ∧ kvs.length ≤ 2 * n)
  have kc : ∀ {H' : Hp}, Kp [pv] H2 H' → Same H H' := @fun H' k b u e => k _ _ (by simp; exact ne_of_none e n2) (k2 _ _ e)
  refine for_seq (a := cl) (xs := zs.map fun z => V.ref z.1) Pv (fun R r => by simpa using r) (by rw [hP]; exact ⟨[], [], none, rfl, Kp.refl, e2, by simp, by simp, by simp⟩) ?_ ?_ ?_
  · intro n σ H' hp
    rw [hP] at hp
    obtain ⟨kvs, ks, v, rfl, k, _⟩ := hp
    exact SqL.of (kc k _ _ hcl)
  · intro n x σ H' hx hp
    rw [hP] at hp
    obtain ⟨kvs, ks, v, rfl, k, e, hk, hm, hl⟩ := hp
    rw [List.getElem?_map] at hx
    cases ez : zs[n]? with
    | none => rw [ez] at hx; cases hx
    | some z =>
      rw [ez] at hx; cases hx
      have hmz : z ∈ zs := List.mem_of_getElem? ez
      have hn := (List.getElem?_eq_some_iff.mp ez).1
      obtain ⟨dx2, kd, ac, fo, tg, v1, v2, v3, v4, v5, h0, _⟩ := ((hZ z hmz).mono (kc k)).ex
      have zpv : z.1 ≠ pv := ne_of h0 e (by intro z; cases z)
      simp
      rw [u_tSeq]
      unfold sDPut
      simp [-upd_at, h0, T.cl_Command, T.no_Command_begins]
      refine ⟨_, DPut.k (k := kI z.2.2.from_) e (by rw [sz]; omega), ?_⟩
      obtain ⟨ks1, hk1, hm1⟩ := put_nat hk z.2.2.from_ (.bl true)
      have h0' : upd H' pv (.dK (putK kvs (kI z.2.2.from_) (.bl true))) z.1 = _ := (upd_ne zpv).trans h0
      generalize hH3 : upd H' pv _ = H3 at h0'
      have e3 : H3 pv = some (.dK (putK kvs (kI z.2.2.from_) (.bl true))) := by rw [← hH3, upd_same]
      have k3 : Kp [pv] H' H3 := by rw [← hH3]; exact Kp.wr (by simp)
      have l3 := length_putK kvs (kI z.2.2.from_) (.bl true)
      simp [-upd_at, h0', T.cl_Command, T.no_Command_till]
      refine ⟨_, DPut.k (k := kI z.2.2.till) e3 (by rw [sz]; omega), ?_⟩
      obtain ⟨ks2, hk2, hm2⟩ := put_nat hk1 z.2.2.till (.bl true)
      have l4 := length_putK (putK kvs (kI z.2.2.from_) (.bl true)) (kI z.2.2.till) (.bl true)
      rw [hP]
      refine ⟨_, ks2, _, rfl, (k.trans k3).trans (Kp.wr (by simp)), upd_same, hk2, fun d => ?_, by omega⟩
      rw [hm2, hm1, hm, List.take_add_one, ez, Option.toList_some]
      constructor
      · rintro ((⟨w, hw, h⟩ | rfl) | rfl)
        · exact ⟨w, by simp [hw], h⟩
        · exact ⟨z, by simp, .inl rfl⟩
        · exact ⟨z, by simp, .inr rfl⟩
      · rintro ⟨w, hw, h⟩
        rw [List.mem_append] at hw
        rcases hw with hw | hw
        · exact .inl (.inl ⟨w, hw, h⟩)
        · simp at hw
          subst hw
          rcases h with h | h
          · exact .inl (.inr h.symm)
          · exact .inr h.symm
  · intro σ H' hp
    rw [hP] at hp
    obtain ⟨kvs, ks, v, rfl, k, e, hk, hm, hl⟩ := hp
    rw [List.length_map, List.take_length] at hm
    rw [List.length_map] at hl
    (try dsimp only)
    rw [u_tRet, u_tCB, u_tCons]
    refine lc_keys ks (fun d => decide (on < d)) hk (fun H' R r => by simpa using r) e (by rw [sz]; omega) ?_ ?_ ?_
    · intro j hj H3 R r
      simp
      exact r
    · intro j hj H3 R r
      simpa using r
    · refine alloc_new fun p3 H3 n3 e3 k3 => ?_
      simp
      refine ⟨p3, nums (ks.filter fun d => decide (on < d)), rfl, SqL.of e3, fun ns' p4 hperm hsort n4 => ?_⟩
      obtain ⟨ds, rfl⟩ : ∃ ds : List Nat, ns' = nums ds := by
        refine ⟨ns'.map Int.toNat, ?_⟩
        show ns' = (ns'.map Int.toNat).map fun (x : Nat) => (x : Int)
        rw [List.map_map]
        conv => lhs; rw [← List.map_id ns']
        apply List.map_congr_left
        intro x hx
        have : x ∈ nums (ks.filter fun d => decide (on < d)) := hperm.mem_iff.mp hx
        simp [Kcs5Neutral.nums] at this
        obtain ⟨a, _, rfl⟩ := this
        rfl
      have up : Same H3 (upd H3 p4 (.lst ((nums ds).map V.int))) := fun b o e => (upd_ne (ne_of_none e n4)).trans e
      have kk := Same.tr (kc k) k3
      refine q _ p4 ds (Same.tr kk up) (Kp.none (S := []) (Same.kp kk) (by simp) n4) upd_same ?_ fun d => ?_
      · have := hsort
        simp only [Kcs5Neutral.nums, List.pairwise_map] at this
        exact this.imp fun h => by omega
      · have h1 : d ∈ ds ↔ d ∈ ks.filter fun d => decide (on < d) := by
          have := hperm.mem_iff (a := (d : Int))
          rw [nums_mem, nums_mem] at this
          exact this
        rw [h1, List.mem_filter, hm]
        simp
        exact And.comm
end
end LD

namespace LD
open PySem PySem.Spec PyProof.Rows L2
/-! ### the reader -/
def Rdr (A : Ad) (H : Hp) (rd p : Addr) (i : Nat) : Prop := ∃ dx, H rd = some (.ins A.c_Reader dx [("numbers", .ref p), ("place", .int i)])
def sp_Reader_init (A : Ad) : Sp := fun vs H Q _ => ∃ r p dx, vs = [.ref r, .ref p] ∧ H r = some (.ins A.c_Reader dx []) ∧ ∀ H', Rdr A H' r p 0 → Kp [r] H H' → Q .non H'
def sp_Reader_has_more (K : PySem.W.Frag) (A : Ad) : Sp := fun vs H Q _ => ∃ r p i xs, vs = [.ref r] ∧ Rdr A H r p i ∧ SqL K H p xs ∧ Q (.bl (decide ((i : Int) < xs.length))) H

def sp_Reader_next_number (K : PySem.W.Frag) (A : Ad) : Sp := fun vs H Q _ => ∃ (r p : Addr) (i : Nat) (ns : List Int) (v : Int), vs = [.ref r] ∧ Rdr A H r p i ∧ SqL K H p (ns.map V.int) ∧ ns[i]? = some v ∧
  ∀ H', Rdr A H' r p (i + 1) → Kp [r] H H' → (∀ b, b ≠ r → H' b = H b) → Q (.int v) H'
def sp_Reader_next_row (K : PySem.W.Frag) (A : Ad) : Sp := fun vs H Q _ => ∃ (r p : Addr) (i : Nat) (ns row rest : List Int), vs = [.ref r] ∧ Rdr A H r p i ∧ SqL K H p (ns.map V.int) ∧ i ≤ ns.length ∧ ns.drop i = PyFlat.putRow row ++ rest ∧
  ∀ H' q, H q = none → H' q = some (.lst (row.map V.int)) → Rdr A H' r p (i + 1 + row.length) → (∀ b, b ≠ r → b ≠ q → H' b = H b) → Q (.ref q) H'
section
variable {K : PySem.W.Frag} {mg : Str → Option Value} {A : Ad}
theorem pure_Reader_init (T : Txt K mg A) (vs : List V) (H : Hp) (Q : VK) (E : XK) (h : sp_Reader_init A vs H Q E) : t_Reader_init K A { nx := fun _ H' => Q .non H', rt := Q } (L2.start ["self", "numbers"] vs) H := by
  obtain ⟨r, p, dx, rfl, hr, k⟩ := h
  simp [u_tSeq, t_Reader_init, L2.start, hr, T.cl_Reader, T.no_Reader_numbers, T.no_Reader_place]
  exact k _ ⟨dx, by simp⟩ (Kp.wr (by simp))
theorem pure_Reader_has_more (T : Txt K mg A) (vs : List V) (H : Hp) (Q : VK) (E : XK) (h : sp_Reader_has_more K A vs H Q E) : t_Reader_has_more K A { nx := fun _ H' => Q .non H', rt := Q } (L2.start ["self"] vs) H := by
  obtain ⟨r, p, i, xs, rfl, ⟨dx, hr⟩, hS, q⟩ := h
  simp [u_tSeq, t_Reader_has_more, L2.start, hr, T.cl_Reader, T.no_Reader_numbers, T.no_Reader_place]
  refine len_seq hS ?_
  simpa using q
theorem ix_sq {K : PySem.W.Frag} {H : Hp} {p : Addr} {ns : List Int} {i : Nat} {v : Int} {Q : VK} (hS : SqL K H p (ns.map V.int)) (hi : ns[i]? = some v) (q : Q (.int v) H) : rIxL K (.ref p) (.int (i : Int)) H Q :=
  ⟨p, _, i, .int v, rfl, rfl, hS, atI_nat (by rw [List.getElem?_map, hi]; rfl), q⟩
theorem pure_Reader_next_number (T : Txt K mg A) (vs : List V) (H : Hp) (Q : VK) (E : XK) (h : sp_Reader_next_number K A vs H Q E) : t_Reader_next_number K A { nx := fun _ H' => Q .non H', rt := Q } (L2.start ["self", "number"] vs) H := by
  obtain ⟨r, p, i, ns, v, rfl, ⟨dx, hr⟩, hS, hi, k⟩ := h
  simp [u_tSeq, t_Reader_next_number, L2.start, hr, T.cl_Reader, T.no_Reader_numbers, T.no_Reader_place]
  refine ix_sq hS hi ?_
  simp [hr, T.cl_Reader, T.no_Reader_place]
  exact k _ ⟨dx, by simp⟩ (Kp.wr (by simp)) (fun b n => upd_ne n)
theorem sq_not {K : PySem.W.Frag} {H H' : Hp} {p r C dx : Addr} {fs : List (Str × V)} {xs : List V} (hr : H r = some (.ins C dx fs)) (k : ∀ b o, b ≠ r → H b = some o → H' b = some o) (h : SqL K H p xs) : SqL K H' p xs := by
  rcases h with (h | ⟨u, h⟩) | h
  · exact .inl (.inl (k _ _ (ne_of h hr (by intro z; cases z)) h))
  · exact .inl (.inr ⟨u, k _ _ (ne_of h hr (by intro z; cases z)) h⟩)
  · exact .inr h
theorem cut_row {ns row rest : List Int} {i : Nat} (h : ns.drop i = PyFlat.putRow row ++ rest) (hi : i ≤ ns.length) :
    ns[i]? = some (row.length : Int) ∧ cutV (ns.map V.int) (some ((i : Int) + 1)) (some ((i : Int) + 1 + row.length)) = row.map V.int ∧ i + 1 + row.length ≤ ns.length := by
  have e : ns = ns.take i ++ (PyFlat.putRow row ++ rest) := by rw [← h, List.take_append_drop]
  have hl : (ns.take i).length = i := by rw [List.length_take]; omega
  have len : ns.length = i + (1 + row.length + rest.length) := by
    have := congrArg List.length e
    rw [List.length_append, hl] at this
    simp [PyFlat.putRow] at this
    omega
  refine ⟨?_, ?_, by omega⟩
  · rw [e, List.getElem?_append_right (by omega), hl]
    simp [PyFlat.putRow]
  · unfold cutV
    rw [List.length_map]
    have s1 : HT.sIx ns.length 0 (some ((i : Int) + 1)) = i + 1 := by
      rw [show ((i : Int) + 1) = ((i + 1 : Nat) : Int) from by omega, HT.sIx_nat]
      omega
    have s2 : HT.sIx ns.length ns.length (some ((i : Int) + 1 + row.length)) = i + 1 + row.length := by
      rw [show ((i : Int) + 1 + row.length) = ((i + 1 + row.length : Nat) : Int) from by omega, HT.sIx_nat]
      omega
    rw [s1, s2]
    have : ns.drop (i + 1) = row ++ rest := by
      rw [← List.drop_drop, h]
      rfl
    rw [← List.map_drop, this]
    simp
theorem pure_Reader_next_row (T : Txt K mg A) (vs : List V) (H : Hp) (Q : VK) (E : XK) (h : sp_Reader_next_row K A vs H Q E) : t_Reader_next_row K A (sp_Reader_next_number K A) { nx := fun _ H' => Q .non H', rt := Q } (L2.start ["self", "size", "row"] vs) H := by
  obtain ⟨r, p, i, ns, row, rest, rfl, ⟨dx, hr⟩, hS, hi, hd, k⟩ := h
  obtain ⟨c1, c2, c3⟩ := cut_row hd hi
  simp [u_tSeq, t_Reader_next_row, L2.start, hr]
  refine ⟨r, p, i, ns, _, rfl, ⟨dx, hr⟩, hS, c1, fun H1 R1 K1 eq1 => ?_⟩
  obtain ⟨d1, e1⟩ := R1
  simp [u_tSeq, e1, T.cl_Reader, T.no_Reader_numbers, T.no_Reader_place]
  refine ⟨p, _, rfl, sq_not hr (fun b o n e => (eq1 b n).trans e) hS, fun q hq => ?_⟩
  rw [c2]
  have qr : r ≠ q := ne_of_none e1 hq
  have hq0 : H q = none := (eq1 q qr.symm).symm.trans hq
  simp [u_tSeq, e1, qr, T.cl_Reader, T.no_Reader_place]
  refine k _ q hq0 ?_ ⟨d1, ?_⟩ ?_
  · rw [upd_ne qr.symm, upd_same]
  · rw [upd_same]; simp
  · intro b n1 n2
    rw [upd_ne n1, upd_ne n2]
    exact eq1 b n1
end
end LD

namespace LD
open PySem PySem.Spec PyProof.Rows L2
def sp_Command_init (A : Ad) : Sp := fun vs H Q _ => ∃ c dx k, vs = [.ref c, .int k] ∧ H c = some (.ins A.c_Command dx []) ∧ ∀ H', CmdAt A (nw H H' c) c (.fresh k) → Kp [c] H H' → Q .non H'
section
variable {K : PySem.W.Frag} {mg : Str → Option Value} {A : Ad}
theorem pure_Command_init (T : Txt K mg A) (vs : List V) (H : Hp) (Q : VK) (E : XK) (h : sp_Command_init A vs H Q E) : t_Command_init K A { nx := fun _ H' => Q .non H', rt := Q } (L2.start ["self", "kind"] vs) H := by
  obtain ⟨c, dx, k, rfl, hc, q⟩ := h
  simp [u_tSeq, t_Command_init, L2.start, hc, T.cl_Command, T.no_Command_kind, T.no_Command_number, T.no_Command_target, T.no_Command_act, T.no_Command_law, T.no_Command_begins, T.no_Command_till, T.no_Command_follow]
  refine alloc_upd fun p1 H1 m1 n1 e1 c1 k1 _ => ?_
  simp [u_tSeq, c1, T.cl_Command, T.no_Command_after]
  refine alloc_upd fun p2 H2 m2 n2 e2 c2 k2 _ => ?_
  simp [u_tSeq, c2, T.cl_Command, T.no_Command_label]
  refine alloc_upd fun p3 H3 m3 n3 e3 c3 k3 _ => ?_
  simp [u_tSeq, c3, T.cl_Command, T.no_Command_old]
  refine alloc_upd fun p4 H4 m4 n4 e4 c4 k4 _ => ?_
  simp [u_tSeq, c4, T.cl_Command, T.no_Command_to]
  refine alloc_upd fun p5 H5 m5 n5 e5 c5 k5 _ => ?_
  simp [c5, T.cl_Command, T.no_Command_text]
  generalize hF : upd H5 c _ = H6
  have c6 : H6 c = some (.ins A.c_Command dx (cmdF (.fresh k) p1 p2 p3 p4 p5)) := by rw [← hF, upd_same]; rfl
  have k6 : Kp [c] H5 H6 := by rw [← hF]; exact Kp.wr (by simp)
  have q1 : p1 ∉ [c] := by simpa using m1
  have q2 : p2 ∉ [c] := by simpa using m2
  have q3 : p3 ∉ [c] := by simpa using m3
  have q4 : p4 ∉ [c] := by simpa using m4
  have q5 : p5 ∉ [c] := by simpa using m5
  have l12 := k1.trans k2
  have l13 := l12.trans k3
  have l14 := l13.trans k4
  refine q _ ⟨dx, p1, p2, p3, p4, p5, ?_, ?_, ?_, ?_, ?_, ?_⟩ (((l14.trans k5)).trans k6)
  · rw [nw_at]; exact c6
  · unfold IL; rw [nw_new n1]; exact k6 _ _ q1 (k5 _ _ q1 (k4 _ _ q1 (k3 _ _ q1 (k2 _ _ q1 e1))))
  · unfold IL; rw [nw_new (k1.none q2 n2)]; exact k6 _ _ q2 (k5 _ _ q2 (k4 _ _ q2 (k3 _ _ q2 e2)))
  · unfold IL; rw [nw_new (l12.none q3 n3)]; exact k6 _ _ q3 (k5 _ _ q3 (k4 _ _ q3 e3))
  · unfold IL; rw [nw_new (l13.none q4 n4)]; exact k6 _ _ q4 (k5 _ _ q4 e4)
  · unfold IL; rw [nw_new (l14.none q5 n5)]; exact k6 _ _ q5 e5
end
end LD

namespace LD
open PySem PySem.Spec PyProof.Rows L2
/-- the reader stands at i; what is left is rest -/
structure RS (K : PySem.W.Frag) (A : Ad) (H : Hp) (rd p : Addr) (ns : List Int) (i : Nat) (rest : List Int) : Prop where
  r : Rdr A H rd p i
  s : SqL K H p (ns.map V.int)
  le : i ≤ ns.length
  e : ns.drop i = rest
section
variable {K : PySem.W.Frag} {mg : Str → Option Value} {A : Ad} {H H' : Hp} {rd p : Addr} {ns : List Int} {i : Nat} {rest : List Int}
theorem RS.keep (h : RS K A H rd p ns i rest) (k : ∀ b o, H b = some o → (b = rd ∨ ∀ C dx fs, o ≠ .ins C dx fs) → H' b = some o) : RS K A H' rd p ns i rest := by
  obtain ⟨dx, e⟩ := h.r
  refine ⟨⟨dx, k _ _ e (.inl rfl)⟩, ?_, h.le, h.e⟩
  rcases h.s with (q | ⟨o, q⟩) | q
  · exact .inl (.inl (k _ _ q (.inr (fun _ _ _ z => by cases z))))
  · exact .inl (.inr ⟨o, k _ _ q (.inr (fun _ _ _ z => by cases z))⟩)
  · exact .inr q
theorem RS.set (h : RS K A H rd p ns i rest) {c C dx : Addr} {fs : List (Str × V)} {o : HO} (hc : H c = some (.ins C dx fs)) (n : rd ≠ c) : RS K A (upd H c o) rd p ns i rest := by
  refine h.keep fun b u e q => ?_
  have : b ≠ c := by
    rintro rfl
    rcases q with q | q
    · exact n q.symm
    · rw [hc] at e; exact q _ _ _ (Option.some.inj e).symm
  rw [upd_ne this]; exact e
theorem nn {v : Int} {Q : VK} {E : XK} (h : RS K A H rd p ns i (v :: rest)) (q : ∀ H', RS K A H' rd p ns (i + 1) rest → (∀ b, b ≠ rd → H' b = H b) → Q (.int v) H') : sp_Reader_next_number K A [.ref rd] H Q E := by
  have hv : ns[i]? = some v := by
    have := congrArg (·[0]?) h.e
    simpa using this
  obtain ⟨dx, e⟩ := id h.r
  refine ⟨rd, p, i, ns, v, rfl, h.r, h.s, hv, fun H' R _ f => q H' ⟨R, sq_not e (fun b o n q => (f b n).trans q) h.s, ?_, ?_⟩ f⟩
  · have := (List.getElem?_eq_some_iff.mp hv).1; omega
  · rw [← List.drop_drop, h.e]; rfl
theorem nr {row : List Int} {Q : VK} {E : XK} (h : RS K A H rd p ns i (PyFlat.putRow row ++ rest)) (q : ∀ H' l, H l = none → H' l = some (.lst (row.map V.int)) → RS K A H' rd p ns (i + 1 + row.length) rest → (∀ b, b ≠ rd → b ≠ l → H' b = H b) → Q (.ref l) H') : sp_Reader_next_row K A [.ref rd] H Q E := by
  obtain ⟨dx, e⟩ := id h.r
  obtain ⟨_, _, c3⟩ := cut_row h.e h.le
  refine ⟨rd, p, i, ns, row, rest, rfl, h.r, h.s, h.le, h.e, fun H' l hl hl2 R f => q H' l hl hl2 ⟨R, sq_not e (fun b o n q => (f b n (ne_of_none q hl)).trans q) h.s, c3, ?_⟩ f⟩
  rw [show i + 1 + row.length = i + (1 + row.length) from by omega, ← List.drop_drop, h.e, ← List.drop_drop]
  show List.drop row.length (row ++ rest) = rest
  simp
theorem nw_same {H0 : Hp} {c rd : Addr} (n : rd ≠ c) (n0 : H0 rd ≠ none) (f : ∀ b o, b ≠ rd → H b = some o → H' b = some o) : Same (nw H0 H c) (nw H0 H' c) := by
  intro b o e
  unfold nw at e ⊢
  split at e
  · rename_i hb
    rw [if_pos hb]
    refine f b o ?_ e
    rintro rfl
    rcases hb with hb | hb
    · exact n hb
    · exact n0 hb
  · cases e
theorem nw_some {H0 : Hp} {c b : Addr} {o : HO} (h : nw H0 H c b = some o) : (b = c ∨ H0 b = none) ∧ H b = some o := by
  unfold nw at h
  split at h
  · exact ⟨by assumption, h⟩
  · cases h
/-- a field that is a number -/
theorem cmd_seti {H0 : Hp} {c : Addr} {m m' : MC} {f : Str} {v : Int} (h : CmdAt A (nw H0 H c) c m)
    (hp : ∀ a l o t x, putF f (.int v) (cmdF m a l o t x) = cmdF m' a l o t x) (ha : m'.after = m.after) (hl : m'.label = m.label) (ho : m'.old = m.old) (ht : m'.to = m.to) (hx : m'.text = m.text) :
    ∃ dx fs, H c = some (.ins A.c_Command dx fs) ∧ fs.length < 1000 ∧ CmdAt A (nw H0 (upd H c (.ins A.c_Command dx (putF f (.int v) fs))) c) c m' := by
  obtain ⟨dx, a, l, o, t, x, h0, h1, h2, h3, h4, h5⟩ := h
  have k {b : Addr} {xs : List V} (e : nw H0 H c b = some (.lst xs)) : nw H0 (upd H c (.ins A.c_Command dx (putF f (.int v) (cmdF m a l o t x)))) c b = some (.lst xs) := by
    have e2 := nw_some e
    rw [nw_at] at h0
    have : b ≠ c := ne_of e2.2 h0 (by intro z; cases z)
    rcases e2.1 with q | q
    · exact absurd q this
    · rw [nw_new q, upd_ne this]; exact e2.2
  refine ⟨dx, cmdF m a l o t x, by rw [nw_at] at h0; exact h0, (by show 13 < 1000; decide), dx, a, l, o, t, x, ?_, ?_, ?_, ?_, ?_, ?_⟩
  · rw [nw_at, upd_same, hp]
  · rw [ha]; exact k h1
  · rw [hl]; exact k h2
  · rw [ho]; exact k h3
  · rw [ht]; exact k h4
  · rw [hx]; exact k h5
end
end LD

namespace LD
open PySem PySem.Spec PyProof.Rows L2
section
variable {K : PySem.W.Frag} {mg : Str → Option Value} {A : Ad} {H H' : Hp}
/-- a field that is a new list q -/
theorem cmd_setl {H0 : Hp} {c q : Addr} {m m' : MC} {f : Str} {row : List Int} (h : CmdAt A (nw H0 H c) c m) (hq : H q = some (.lst (row.map V.int))) (nq : H0 q = none)
    (hp : ∀ a l o t x, ∃ a' l' o' t' x', putF f (.ref q) (cmdF m a l o t x) = cmdF m' a' l' o' t' x' ∧
      ((a' = a ∧ m'.after = m.after) ∨ (a' = q ∧ m'.after = row)) ∧ ((l' = l ∧ m'.label = m.label) ∨ (l' = q ∧ m'.label = row)) ∧ ((o' = o ∧ m'.old = m.old) ∨ (o' = q ∧ m'.old = row)) ∧
      ((t' = t ∧ m'.to = m.to) ∨ (t' = q ∧ m'.to = row)) ∧ ((x' = x ∧ m'.text = m.text) ∨ (x' = q ∧ m'.text = row))) :
    ∃ dx fs, H c = some (.ins A.c_Command dx fs) ∧ fs.length < 1000 ∧ CmdAt A (nw H0 (upd H c (.ins A.c_Command dx (putF f (.ref q) fs))) c) c m' := by
  obtain ⟨dx, a, l, o, t, x, h0, h1, h2, h3, h4, h5⟩ := h
  obtain ⟨a', l', o', t', x', hp, ja, jl, jo, jt, jx⟩ := hp a l o t x
  rw [nw_at] at h0
  have k {b : Addr} {xs : List V} (e : nw H0 H c b = some (.lst xs)) : nw H0 (upd H c (.ins A.c_Command dx (putF f (.ref q) (cmdF m a l o t x)))) c b = some (.lst xs) := by
    have e2 := nw_some e
    have : b ≠ c := ne_of e2.2 h0 (by intro z; cases z)
    rcases e2.1 with q | q
    · exact absurd q this
    · rw [nw_new q, upd_ne this]; exact e2.2
  have kq : nw H0 (upd H c (.ins A.c_Command dx (putF f (.ref q) (cmdF m a l o t x)))) c q = some (.lst (row.map V.int)) := k (by rw [nw_new nq]; exact hq)
  have g {b b' : Addr} {xs ys : List Int} (e : nw H0 H c b = some (.lst (xs.map V.int))) (j : (b' = b ∧ ys = xs) ∨ (b' = q ∧ ys = row)) : nw H0 (upd H c (.ins A.c_Command dx (putF f (.ref q) (cmdF m a l o t x)))) c b' = some (.lst (ys.map V.int)) := by
    rcases j with ⟨rfl, rfl⟩ | ⟨rfl, rfl⟩
    · exact k e
    · exact kq
  refine ⟨dx, cmdF m a l o t x, h0, (by show 13 < 1000; decide), dx, a', l', o', t', x', ?_, g h1 ja, g h2 jl, g h3 jo, g h4 jt, g h5 jx⟩
  rw [nw_at, upd_same, hp]
/-- what a call tells of a command -/
def mcOf : List (List Int) → Option MC
  | [[2, law, b, t], a, l, x] => some ⟨2, 0, 0, law, b, t, 0, 0, a, l, [], [], x⟩
  | [[3, law, b, t], l] => some ⟨3, 0, 0, law, b, t, 0, 0, [], l, [], [], []⟩
  | [[4, law, b, t], l, x] => some ⟨4, 0, 0, law, b, t, 0, 0, [], l, [], [], x⟩
  | [[5, law, b, t], l, o, x] => some ⟨5, 0, 0, law, b, t, 0, 0, [], l, o, [], x⟩
  | [[6, law, f, b, t], l, o] => some ⟨6, 0, 0, law, b, t, f, 0, [], l, [], o, []⟩
  | _ => none
def sp_read_command (K : PySem.W.Frag) (A : Ad) : Sp := fun vs H Q _ => ∃ (rd p : Addr) (ns rest : List Int) (i : Nat) (k : Int) (nums : List Int) (rows : List (List Int)) (m : MC), vs = [.int k, .ref rd] ∧
  RS K A H rd p ns i (nums ++ PyFlat.putRows rows ++ rest) ∧ mcOf ((k :: nums) :: rows) = some m ∧
  ∀ H' c, H c = none → CmdAt A (nw H H' c) c m → RS K A H' rd p ns (i + (nums ++ PyFlat.putRows rows).length) rest → Kp [rd] H H' → Q (.ref c) H'
def MC.s_law (m : MC) (v : Int) : MC := { m with law := v }
def MC.s_follow (m : MC) (v : Int) : MC := { m with follow := v }
def MC.s_begins (m : MC) (v : Int) : MC := { m with begins := v }
def MC.s_till (m : MC) (v : Int) : MC := { m with till := v }
def MC.s_after (m : MC) (v : List Int) : MC := { m with after := v }
def MC.s_label (m : MC) (v : List Int) : MC := { m with label := v }
def MC.s_old (m : MC) (v : List Int) : MC := { m with old := v }
def MC.s_to (m : MC) (v : List Int) : MC := { m with to := v }
def MC.s_text (m : MC) (v : List Int) : MC := { m with text := v }
/-- a command on the way -/
structure CR (K : PySem.W.Frag) (A : Ad) (H0 : Hp) (rd c p : Addr) (ns : List Int) (H : Hp) (i : Nat) (rest : List Int) (m : MC) : Prop where
  rs : RS K A H rd p ns i rest
  cm : CmdAt A (nw H0 H c) c m
  kp : Kp [rd] H0 H
  n1 : rd ≠ c
  n2 : H0 rd ≠ none
  n3 : H0 c = none
variable {H0 : Hp} {rd c p : Addr} {ns rest : List Int} {i : Nat} {m m' : MC} {σ : L2.St} {D : Ends} {f : Str}
theorem step_num (T : Txt K mg A) {v : Int} (h : CR K A H0 rd c p ns H i (v :: rest) m) (s1 : σ[1]? = some (some (.ref rd))) (s2 : σ[2]? = some (some (.ref c))) (hn : NoAttr K A.c_Command f)
    (hp : ∀ a l o t x, putF f (.int v) (cmdF m a l o t x) = cmdF m' a l o t x) (ha : m'.after = m.after) (hl : m'.label = m.label) (ho : m'.old = m.old) (ht : m'.to = m.to) (hx : m'.text = m.text)
    (k : ∀ H', CR K A H0 rd c p ns H' (i + 1) rest m' → D.nx σ H') :
    sFld K (tVar 2) (tMeth A.c_Reader "next_number" (sp_Reader_next_number K A) [] E0 (tVar 1) tNil) f D σ H := by
  obtain ⟨dr, er⟩ := id h.rs.r
  have sl1 : ∀ R : V → Prop, slot σ 1 R ↔ R (.ref rd) := fun R => by simp [slot, s1]
  have sl2 : ∀ R : V → Prop, slot σ 2 R ↔ R (.ref c) := fun R => by simp [slot, s2]
  simp [sl1, sl2, er]
  refine nn h.rs fun H2 R2 f2 => ?_
  have C2 : CmdAt A (nw H0 H2 c) c m := h.cm.mono (nw_same h.n1 h.n2 fun b o nb e => (f2 b nb).trans e)
  obtain ⟨dx, fs, e, l, C3⟩ := cmd_seti C2 hp ha hl ho ht hx
  simp [e, l, T.cl_Command, hn]
  refine k _ ⟨R2.set e h.n1, C3, fun b o nb hb => ?_, h.n1, h.n2, h.n3⟩
  rw [upd_ne (ne_of_none hb h.n3), f2 b (by simpa using nb)]
  exact h.kp b o nb hb
theorem step_row (T : Txt K mg A) {row : List Int} (h : CR K A H0 rd c p ns H i (PyFlat.putRow row ++ rest) m) (s1 : σ[1]? = some (some (.ref rd))) (s2 : σ[2]? = some (some (.ref c))) (hn : NoAttr K A.c_Command f)
    (hp : ∀ q a l o t x, ∃ a' l' o' t' x', putF f (.ref q) (cmdF m a l o t x) = cmdF m' a' l' o' t' x' ∧
      ((a' = a ∧ m'.after = m.after) ∨ (a' = q ∧ m'.after = row)) ∧ ((l' = l ∧ m'.label = m.label) ∨ (l' = q ∧ m'.label = row)) ∧ ((o' = o ∧ m'.old = m.old) ∨ (o' = q ∧ m'.old = row)) ∧
      ((t' = t ∧ m'.to = m.to) ∨ (t' = q ∧ m'.to = row)) ∧ ((x' = x ∧ m'.text = m.text) ∨ (x' = q ∧ m'.text = row)))
    (k : ∀ H', CR K A H0 rd c p ns H' (i + (PyFlat.putRow row).length) rest m' → D.nx σ H') :
    sFld K (tVar 2) (tMeth A.c_Reader "next_row" (sp_Reader_next_row K A) [] E0 (tVar 1) tNil) f D σ H := by
  obtain ⟨dr, er⟩ := id h.rs.r
  have sl1 : ∀ R : V → Prop, slot σ 1 R ↔ R (.ref rd) := fun R => by simp [slot, s1]
  have sl2 : ∀ R : V → Prop, slot σ 2 R ↔ R (.ref c) := fun R => by simp [slot, s2]
  simp [sl1, sl2, er]
  refine nr h.rs fun H2 q nq eq R2 f2 => ?_
  have nq0 : H0 q = none := by
    refine h.kp.none ?_ nq
    simp
    exact fun e => by rw [e, er] at nq; cases nq
  have C2 : CmdAt A (nw H0 H2 c) c m := h.cm.mono (nw_same h.n1 h.n2 fun b o nb e => (f2 b nb (ne_of_none e nq)).trans e)
  obtain ⟨dx, fs, e, l, C3⟩ := cmd_setl C2 eq nq0 (hp q)
  simp [e, l, T.cl_Command, hn]
  refine k _ ⟨?_, C3, fun b o nb hb => ?_, h.n1, h.n2, h.n3⟩
  · have := R2.set (o := HO.ins A.c_Command dx (putF f (V.ref q) fs)) e h.n1
    rw [show i + (PyFlat.putRow row).length = i + 1 + row.length from by simp [PyFlat.putRow]; omega]
    exact this
  · have hb1 := h.kp b o nb hb
    rw [upd_ne (ne_of_none hb h.n3), f2 b (by simpa using nb) (ne_of_none hb1 nq)]
    exact hb1
theorem if_eq {k n : Int} {t u : TS} (s0 : σ[0]? = some (some (.int k))) (h1 : k = n → t D σ H) (h2 : k ≠ n → u D σ H) : tIfS (tTest (tOp rEq (tVar 0) (tC (.int n)))) t u D σ H := by
  have sl0 : ∀ R : V → Prop, slot σ 0 R ↔ R (.int k) := fun R => by simp [slot, s0]
  simp [sl0]
  split
  · exact h1 (by assumption)
  · exact h2 (by assumption)
theorem if_no {k n : Int} {t u : TS} (s0 : σ[0]? = some (some (.int k))) (hk : k ≠ n) (h2 : u D σ H) : tIfS (tTest (tOp rEq (tVar 0) (tC (.int n)))) t u D σ H := if_eq s0 (fun e => absurd e hk) fun _ => h2
theorem if_yes {n : Int} {t u : TS} (s0 : σ[0]? = some (some (.int n))) (h1 : t D σ H) : tIfS (tTest (tOp rEq (tVar 0) (tC (.int n)))) t u D σ H := if_eq s0 (fun _ => h1) fun e => absurd rfl e
theorem CR.new (h : CR K A H0 rd c p ns H i rest m) {q : Addr} {o : HO} (hq : H q = none) : CR K A H0 rd c p ns (upd H q o) i rest m := by
  have k : ∀ b u, H b = some u → upd H q o b = some u := fun b u e => (upd_ne (ne_of_none e hq)).trans e
  exact ⟨h.rs.keep fun b u e _ => k b u e, h.cm.mono (nw_same h.n1 h.n2 fun b u _ e => k b u e), fun b u nb e => k b u (h.kp b u nb e), h.n1, h.n2, h.n3⟩
theorem if_in {k x y z : Int} {t u : TS} (h : CR K A H0 rd c p ns H i rest m) (s0 : σ[0]? = some (some (.int k)))
    (h1 : k = x ∨ k = y ∨ k = z → ∀ H', CR K A H0 rd c p ns H' i rest m → t D σ H') (h2 : ¬ (k = x ∨ k = y ∨ k = z) → ∀ H', CR K A H0 rd c p ns H' i rest m → u D σ H') :
    tIfS (tTest (tOp (rIn K false) (tVar 0) (tTup (tCons (tC (.int x)) (tCons (tC (.int y)) (tCons (tC (.int z)) tNil)))))) t u D σ H := by
  have sl0 : ∀ R : V → Prop, slot σ 0 R ↔ R (.int k) := fun R => by simp [slot, s0]
  simp [sl0]
  refine ⟨(by show 3 ≤ sizeLine; decide), fun q hq => ⟨q, _, rfl, .inr (SqT.of upd_same), rfl, rfl, ?_⟩⟩
  have e : inV (.int k) [.int x, .int y, .int z] = decide (k = x ∨ k = y ∨ k = z) := by
    rw [Bool.eq_iff_iff]
    simp [inV, eqV]
    omega
  simp [e]
  by_cases hk : k = x ∨ k = y ∨ k = z
  · rw [if_pos hk]; exact h1 hk _ (h.new hq)
  · rw [if_neg hk]; exact h2 hk _ (h.new hq)
theorem step_law (T : Txt K mg A) {v : Int} (h : CR K A H0 rd c p ns H i (v :: rest) m) (s1 : σ[1]? = some (some (.ref rd))) (s2 : σ[2]? = some (some (.ref c))) (k : ∀ H', CR K A H0 rd c p ns H' (i + 1) rest (m.s_law v) → D.nx σ H') :
    sFld K (tVar 2) (tMeth A.c_Reader "next_number" (sp_Reader_next_number K A) [] E0 (tVar 1) tNil) "law" D σ H := step_num (m' := (m.s_law v)) T h s1 s2 T.no_Command_law (fun _ _ _ _ _ => by simp [cmdF, MC.s_law, MC.s_follow, MC.s_begins, MC.s_till, MC.s_after, MC.s_label, MC.s_old, MC.s_to, MC.s_text]) rfl rfl rfl rfl rfl k
theorem step_follow (T : Txt K mg A) {v : Int} (h : CR K A H0 rd c p ns H i (v :: rest) m) (s1 : σ[1]? = some (some (.ref rd))) (s2 : σ[2]? = some (some (.ref c))) (k : ∀ H', CR K A H0 rd c p ns H' (i + 1) rest (m.s_follow v) → D.nx σ H') :
    sFld K (tVar 2) (tMeth A.c_Reader "next_number" (sp_Reader_next_number K A) [] E0 (tVar 1) tNil) "follow" D σ H := step_num (m' := (m.s_follow v)) T h s1 s2 T.no_Command_follow (fun _ _ _ _ _ => by simp [cmdF, MC.s_law, MC.s_follow, MC.s_begins, MC.s_till, MC.s_after, MC.s_label, MC.s_old, MC.s_to, MC.s_text]) rfl rfl rfl rfl rfl k
theorem step_begins (T : Txt K mg A) {v : Int} (h : CR K A H0 rd c p ns H i (v :: rest) m) (s1 : σ[1]? = some (some (.ref rd))) (s2 : σ[2]? = some (some (.ref c))) (k : ∀ H', CR K A H0 rd c p ns H' (i + 1) rest (m.s_begins v) → D.nx σ H') :
    sFld K (tVar 2) (tMeth A.c_Reader "next_number" (sp_Reader_next_number K A) [] E0 (tVar 1) tNil) "begins" D σ H := step_num (m' := (m.s_begins v)) T h s1 s2 T.no_Command_begins (fun _ _ _ _ _ => by simp [cmdF, MC.s_law, MC.s_follow, MC.s_begins, MC.s_till, MC.s_after, MC.s_label, MC.s_old, MC.s_to, MC.s_text]) rfl rfl rfl rfl rfl k
theorem step_till (T : Txt K mg A) {v : Int} (h : CR K A H0 rd c p ns H i (v :: rest) m) (s1 : σ[1]? = some (some (.ref rd))) (s2 : σ[2]? = some (some (.ref c))) (k : ∀ H', CR K A H0 rd c p ns H' (i + 1) rest (m.s_till v) → D.nx σ H') :
    sFld K (tVar 2) (tMeth A.c_Reader "next_number" (sp_Reader_next_number K A) [] E0 (tVar 1) tNil) "till" D σ H := step_num (m' := (m.s_till v)) T h s1 s2 T.no_Command_till (fun _ _ _ _ _ => by simp [cmdF, MC.s_law, MC.s_follow, MC.s_begins, MC.s_till, MC.s_after, MC.s_label, MC.s_old, MC.s_to, MC.s_text]) rfl rfl rfl rfl rfl k
theorem step_after (T : Txt K mg A) {row : List Int} (h : CR K A H0 rd c p ns H i (PyFlat.putRow row ++ rest) m) (s1 : σ[1]? = some (some (.ref rd))) (s2 : σ[2]? = some (some (.ref c))) (k : ∀ H', CR K A H0 rd c p ns H' (i + (PyFlat.putRow row).length) rest (m.s_after row) → D.nx σ H') :
    sFld K (tVar 2) (tMeth A.c_Reader "next_row" (sp_Reader_next_row K A) [] E0 (tVar 1) tNil) "after" D σ H := step_row (m' := (m.s_after row)) T h s1 s2 T.no_Command_after (fun q a l o t x => ⟨q, l, o, t, x, by simp [cmdF, MC.s_law, MC.s_follow, MC.s_begins, MC.s_till, MC.s_after, MC.s_label, MC.s_old, MC.s_to, MC.s_text], .inr ⟨rfl, rfl⟩, .inl ⟨rfl, rfl⟩, .inl ⟨rfl, rfl⟩, .inl ⟨rfl, rfl⟩, .inl ⟨rfl, rfl⟩⟩) k
theorem step_label (T : Txt K mg A) {row : List Int} (h : CR K A H0 rd c p ns H i (PyFlat.putRow row ++ rest) m) (s1 : σ[1]? = some (some (.ref rd))) (s2 : σ[2]? = some (some (.ref c))) (k : ∀ H', CR K A H0 rd c p ns H' (i + (PyFlat.putRow row).length) rest (m.s_label row) → D.nx σ H') :
    sFld K (tVar 2) (tMeth A.c_Reader "next_row" (sp_Reader_next_row K A) [] E0 (tVar 1) tNil) "label" D σ H := step_row (m' := (m.s_label row)) T h s1 s2 T.no_Command_label (fun q a l o t x => ⟨a, q, o, t, x, by simp [cmdF, MC.s_law, MC.s_follow, MC.s_begins, MC.s_till, MC.s_after, MC.s_label, MC.s_old, MC.s_to, MC.s_text], .inl ⟨rfl, rfl⟩, .inr ⟨rfl, rfl⟩, .inl ⟨rfl, rfl⟩, .inl ⟨rfl, rfl⟩, .inl ⟨rfl, rfl⟩⟩) k
theorem step_old (T : Txt K mg A) {row : List Int} (h : CR K A H0 rd c p ns H i (PyFlat.putRow row ++ rest) m) (s1 : σ[1]? = some (some (.ref rd))) (s2 : σ[2]? = some (some (.ref c))) (k : ∀ H', CR K A H0 rd c p ns H' (i + (PyFlat.putRow row).length) rest (m.s_old row) → D.nx σ H') :
    sFld K (tVar 2) (tMeth A.c_Reader "next_row" (sp_Reader_next_row K A) [] E0 (tVar 1) tNil) "old" D σ H := step_row (m' := (m.s_old row)) T h s1 s2 T.no_Command_old (fun q a l o t x => ⟨a, l, q, t, x, by simp [cmdF, MC.s_law, MC.s_follow, MC.s_begins, MC.s_till, MC.s_after, MC.s_label, MC.s_old, MC.s_to, MC.s_text], .inl ⟨rfl, rfl⟩, .inl ⟨rfl, rfl⟩, .inr ⟨rfl, rfl⟩, .inl ⟨rfl, rfl⟩, .inl ⟨rfl, rfl⟩⟩) k
theorem step_to (T : Txt K mg A) {row : List Int} (h : CR K A H0 rd c p ns H i (PyFlat.putRow row ++ rest) m) (s1 : σ[1]? = some (some (.ref rd))) (s2 : σ[2]? = some (some (.ref c))) (k : ∀ H', CR K A H0 rd c p ns H' (i + (PyFlat.putRow row).length) rest (m.s_to row) → D.nx σ H') :
    sFld K (tVar 2) (tMeth A.c_Reader "next_row" (sp_Reader_next_row K A) [] E0 (tVar 1) tNil) "to" D σ H := step_row (m' := (m.s_to row)) T h s1 s2 T.no_Command_to (fun q a l o t x => ⟨a, l, o, q, x, by simp [cmdF, MC.s_law, MC.s_follow, MC.s_begins, MC.s_till, MC.s_after, MC.s_label, MC.s_old, MC.s_to, MC.s_text], .inl ⟨rfl, rfl⟩, .inl ⟨rfl, rfl⟩, .inl ⟨rfl, rfl⟩, .inr ⟨rfl, rfl⟩, .inl ⟨rfl, rfl⟩⟩) k
theorem step_text (T : Txt K mg A) {row : List Int} (h : CR K A H0 rd c p ns H i (PyFlat.putRow row ++ rest) m) (s1 : σ[1]? = some (some (.ref rd))) (s2 : σ[2]? = some (some (.ref c))) (k : ∀ H', CR K A H0 rd c p ns H' (i + (PyFlat.putRow row).length) rest (m.s_text row) → D.nx σ H') :
    sFld K (tVar 2) (tMeth A.c_Reader "next_row" (sp_Reader_next_row K A) [] E0 (tVar 1) tNil) "text" D σ H := step_row (m' := (m.s_text row)) T h s1 s2 T.no_Command_text (fun q a l o t x => ⟨a, l, o, t, q, by simp [cmdF, MC.s_law, MC.s_follow, MC.s_begins, MC.s_till, MC.s_after, MC.s_label, MC.s_old, MC.s_to, MC.s_text], .inl ⟨rfl, rfl⟩, .inl ⟨rfl, rfl⟩, .inl ⟨rfl, rfl⟩, .inl ⟨rfl, rfl⟩, .inr ⟨rfl, rfl⟩⟩) k
theorem fin_cmd {Q : VK} (h : CR K A H0 rd c p ns H i rest m) {j : Nat} {m2 : MC} (q : ∀ H' c, H0 c = none → CmdAt A (nw H0 H' c) c m2 → RS K A H' rd p ns j rest → Kp [rd] H0 H' → Q (.ref c) H') (ej : i = j) (em : m = m2) {R : L2.St → Hp → Prop} {k : V} :
    tRet (tVar 2) { nx := R, rt := Q } [some k, some (.ref rd), some (.ref c)] H := by
  subst ej em
  simp
  exact q H c h.n3 h.cm h.rs h.kp
theorem pure_read_command (T : Txt K mg A) (vs : List V) (H : Hp) (Q : VK) (E : XK) (h : sp_read_command K A vs H Q E) :
    t_read_command K A (sp_Command_init A) (sp_Reader_next_number K A) (sp_Reader_next_row K A) { nx := fun _ H' => Q .non H', rt := Q } (L2.start ["kind", "reader", "command"] vs) H := by
  obtain ⟨rd, p, ns, rest, i, k, nums, rows, m, rfl, hR, hm, q⟩ := h
  obtain ⟨dr, er⟩ := id hR.r
  have rd0 : H rd ≠ none := by rw [er]; simp
  rw [t_read_command, u_tSeq]
  simp [L2.start]
  intro c dx nc nd nx
  refine ⟨c, dx, k, rfl, by simp, fun H1 C1 K1 => ⟨rfl, ?_⟩⟩
  -- the command, over H itself
  have crd : rd ≠ c := ne_of_none er nc
  have hK1 : Kp [rd] H H1 := fun b o nb e => K1 b o (by simp; exact ne_of_none e nc) (by rw [upd_ne (ne_of_none e nc), upd_ne (ne_of_none e nd)]; exact e)
  have hC1 : CmdAt A (nw H H1 c) c (.fresh k) := C1.mono (by
    intro b o e
    have e2 := nw_some e
    rcases e2.1 with rfl | e3
    · rw [nw_at]; exact e2.2
    · by_cases hb : b = c
      · subst hb; rw [nw_at]; exact e2.2
      · rw [upd_ne hb] at e3
        by_cases hd : b = dx
        · subst hd; rw [upd_same] at e3; cases e3
        · rw [upd_ne hd] at e3
          rw [nw_new e3]; exact e2.2)
  have hR1 : RS K A H1 rd p ns i (nums ++ PyFlat.putRows rows ++ rest) := hR.keep (fun b o e _ => K1 b o (by simp; exact ne_of_none e nc) (by rw [upd_ne (ne_of_none e nc), upd_ne (ne_of_none e nd)]; exact e))
  have h1 : CR K A H rd c p ns H1 i (nums ++ PyFlat.putRows rows ++ rest) (.fresh k) := ⟨hR1, hC1, hK1, crd, rd0, nc⟩
  clear C1 K1 hK1 hC1 hR1
  unfold mcOf at hm
  split at hm
  all_goals first | (cases hm; done) | skip
  all_goals
    rename_i eq
    obtain ⟨e1, e2⟩ := List.cons.inj eq
    obtain ⟨e3, e4⟩ := List.cons.inj e1
    subst e2 e3 e4
    have hm2 := Option.some.inj hm
    subst hm2
  all_goals simp only [PyFlat.putRows, List.append_assoc, List.cons_append, List.nil_append] at h1
  · refine u_tSeq.mpr (step_law T h1 rfl rfl fun H2 h2 => ?_)
    refine u_tSeq.mpr (if_no rfl (by decide) ?_)
    refine u_tSeq.mpr (step_begins T h2 rfl rfl fun H3 h3 => ?_)
    refine u_tSeq.mpr (step_till T h3 rfl rfl fun H4 h4 => ?_)
    refine u_tSeq.mpr (if_yes rfl (step_after T h4 rfl rfl fun H5 h5 => ?_))
    refine u_tSeq.mpr (step_label T h5 rfl rfl fun H6 h6 => ?_)
    refine u_tSeq.mpr (if_no rfl (by decide) ?_)
    refine u_tSeq.mpr (if_no rfl (by decide) ?_)
    refine u_tSeq.mpr (if_in h6 rfl (fun _ H7 h7 => step_text T h7 rfl rfl fun H8 h8 => ?_) (fun e => absurd e (by decide)))
    exact fin_cmd h8 q (by simp [PyFlat.putRows]; omega) rfl
  · refine u_tSeq.mpr (step_law T h1 rfl rfl fun H2 h2 => ?_)
    refine u_tSeq.mpr (if_no rfl (by decide) ?_)
    refine u_tSeq.mpr (step_begins T h2 rfl rfl fun H3 h3 => ?_)
    refine u_tSeq.mpr (step_till T h3 rfl rfl fun H4 h4 => ?_)
    refine u_tSeq.mpr (if_no rfl (by decide) ?_)
    refine u_tSeq.mpr (step_label T h4 rfl rfl fun H6 h6 => ?_)
    refine u_tSeq.mpr (if_no rfl (by decide) ?_)
    refine u_tSeq.mpr (if_no rfl (by decide) ?_)
    refine u_tSeq.mpr (if_in h6 rfl (fun e => absurd e (by decide)) (fun _ H7 h7 => ?_))
    exact fin_cmd h7 q (by simp [PyFlat.putRows]; omega) rfl
  · refine u_tSeq.mpr (step_law T h1 rfl rfl fun H2 h2 => ?_)
    refine u_tSeq.mpr (if_no rfl (by decide) ?_)
    refine u_tSeq.mpr (step_begins T h2 rfl rfl fun H3 h3 => ?_)
    refine u_tSeq.mpr (step_till T h3 rfl rfl fun H4 h4 => ?_)
    refine u_tSeq.mpr (if_no rfl (by decide) ?_)
    refine u_tSeq.mpr (step_label T h4 rfl rfl fun H6 h6 => ?_)
    refine u_tSeq.mpr (if_no rfl (by decide) ?_)
    refine u_tSeq.mpr (if_no rfl (by decide) ?_)
    refine u_tSeq.mpr (if_in h6 rfl (fun _ H7 h7 => step_text T h7 rfl rfl fun H8 h8 => ?_) (fun e => absurd e (by decide)))
    exact fin_cmd h8 q (by simp [PyFlat.putRows]; omega) rfl
  · refine u_tSeq.mpr (step_law T h1 rfl rfl fun H2 h2 => ?_)
    refine u_tSeq.mpr (if_no rfl (by decide) ?_)
    refine u_tSeq.mpr (step_begins T h2 rfl rfl fun H3 h3 => ?_)
    refine u_tSeq.mpr (step_till T h3 rfl rfl fun H4 h4 => ?_)
    refine u_tSeq.mpr (if_no rfl (by decide) ?_)
    refine u_tSeq.mpr (step_label T h4 rfl rfl fun H6 h6 => ?_)
    refine u_tSeq.mpr (if_yes rfl (step_old T h6 rfl rfl fun H5 h5 => ?_))
    refine u_tSeq.mpr (if_no rfl (by decide) ?_)
    refine u_tSeq.mpr (if_in h5 rfl (fun _ H7 h7 => step_text T h7 rfl rfl fun H8 h8 => ?_) (fun e => absurd e (by decide)))
    exact fin_cmd h8 q (by simp [PyFlat.putRows]; omega) rfl
  · refine u_tSeq.mpr (step_law T h1 rfl rfl fun H2 h2 => ?_)
    refine u_tSeq.mpr (if_yes rfl (step_follow T h2 rfl rfl fun H9 h9 => ?_))
    refine u_tSeq.mpr (step_begins T h9 rfl rfl fun H3 h3 => ?_)
    refine u_tSeq.mpr (step_till T h3 rfl rfl fun H4 h4 => ?_)
    refine u_tSeq.mpr (if_no rfl (by decide) ?_)
    refine u_tSeq.mpr (step_label T h4 rfl rfl fun H6 h6 => ?_)
    refine u_tSeq.mpr (if_no rfl (by decide) ?_)
    refine u_tSeq.mpr (if_yes rfl (step_to T h6 rfl rfl fun H5 h5 => ?_))
    refine u_tSeq.mpr (if_in h5 rfl (fun e => absurd e (by decide)) (fun _ H7 h7 => ?_))
    exact fin_cmd h7 q (by simp [PyFlat.putRows]; omega) rfl
end
end LD

namespace LD
open PySem PySem.Spec PyProof.Rows L2
def mSound (m : MC) : Bool := decide (m.law ≤ 63) && mSpan m.begins m.till && mLabel m.label && mText m.text &&
  (if m.kind = 2 then decide (m.after.length = 0) || mLabel m.after else if m.kind = 5 then decide (0 < m.old.length) && mText m.old else if m.kind = 6 then mLabel m.to && decide (m.follow ≤ 1) else true)
def sp_is_sound (A : Ad) : Sp := fun vs H Q _ => ∃ (c : Addr) (m : MC), vs = [.ref c] ∧ CmdAt A H c m ∧ Q (.bl (mSound m)) H
section
variable {K : PySem.W.Frag} {mg : Str → Option Value} {A : Ad}
theorem pure_is_sound (T : Txt K mg A) (vs : List V) (H : Hp) (Q : VK) (E : XK) (h : sp_is_sound A vs H Q E) :
    t_is_sound K A (sp_is_label K) sp_is_law (sp_is_old K) (sp_is_place K) sp_is_span (sp_is_text K) { nx := fun _ H' => Q .non H', rt := Q } (L2.start ["command"] vs) H := by
  obtain ⟨c, m, rfl, ⟨dx, a, l, o, t, x, h0, h1, h2, h3, h4, h5⟩, q⟩ := h
  unfold cmdF at h0
  rw [t_is_sound, u_tSeq]
  simp [L2.start, h0, T.cl_Command, T.no_Command_law, T.no_Command_begins, T.no_Command_till, sp_is_law, sp_is_span]
  split
  · refine ⟨_, _, ⟨rfl, rfl⟩, ?_⟩
    split
    · rw [u_tSeq]
      simp [h0, T.cl_Command, T.no_Command_label, T.no_Command_text]
      refine ⟨l, _, rfl, SqL.of h2, ?_⟩
      simp [h0, T.cl_Command, T.no_Command_label, T.no_Command_text]
      split
      · refine ⟨x, _, rfl, SqL.of h5, ?_⟩
        simp
        split
        · simp [u_tSeq, h0, T.cl_Command, T.no_Command_kind, T.no_Command_after, T.no_Command_old, T.no_Command_to, T.no_Command_follow]
          split
          · refine ⟨a, _, rfl, SqL.of h1, ?_⟩
            simpa [mSound, *] using q
          split
          · refine ⟨o, _, rfl, SqL.of h3, ?_⟩
            simpa [mSound, *] using q
          split
          · refine ⟨t, _, rfl, SqL.of h4, ?_⟩
            simp [h0, T.cl_Command, T.no_Command_follow]
            split
            · simpa [mSound, *] using q
            · simpa [mSound, *] using q
          · simpa [mSound, *] using q
        · simpa [mSound, *] using q
      · simpa [mSound, *] using q
    · simpa [mSound, *] using q
  · simpa [mSound, *] using q
end
end LD

namespace LD
open PySem PySem.Spec PyProof.Rows L2
/-! ### record.py: what is written -/
def sp_Record_init (A : Ad) : Sp := fun vs H Q _ => ∃ r dx, vs = [.ref r] ∧ H r = some (.ins A.c_Record dx []) ∧ ∀ H' dl cl, H dl = none → H cl = none → dl ≠ cl → H' r = some (.ins A.c_Record dx (recF dl cl)) → H' dl = some (.lst []) → H' cl = some (.lst []) → Kp [r] H H' → Q .non H'
def sp_Record_last_act (A : Ad) : Sp := fun vs H Q _ => ∃ (r dx dl cl : Addr) (acts : List Nat), vs = [.ref r] ∧ H r = some (.ins A.c_Record dx (recF dl cl)) ∧ IL H dl (nums acts) ∧ Q (.int ((acts.length : Int) - 1)) H
def isBefore (acts : List Nat) (day : Nat) : Bool := acts.getLast?.any fun d => decide (day < d)
def sp_Record_is_before_last_act (A : Ad) : Sp := fun vs H Q _ => ∃ (r dx dl cl : Addr) (acts : List Nat) (day : Nat), vs = [.ref r, .int (day : Nat)] ∧ H r = some (.ins A.c_Record dx (recF dl cl)) ∧ IL H dl (nums acts) ∧ Q (.bl (isBefore acts day)) H
def mAct (acts : List Nat) (day : Nat) : List Nat × Int := if 1048576 < day ∨ isBefore acts day = true then (acts, -1) else if 512 ≤ acts.length then (acts, -28) else (acts ++ [day], (acts.length : Nat))
def sp_Record_add_act (A : Ad) : Sp := fun vs H Q _ => ∃ (r dx dl cl : Addr) (acts : List Nat) (day : Nat), vs = [.ref r, .int (day : Nat)] ∧ H r = some (.ins A.c_Record dx (recF dl cl)) ∧ IL H dl (nums acts) ∧ acts.length ≤ 512 ∧
  ∀ H', Kp [dl] H H' → IL H' dl (nums (mAct acts day).1) → Q (.int (mAct acts day).2) H'
def MC.kept (m : MC) (n k : Int) : MC := { m with number := n, act := k }
def sp_Record_keep (A : Ad) : Sp := fun vs H Q _ => ∃ (r dx dl cl c dx2 a l o t x : Addr) (acts : List Nat) (ca : List Addr) (m : MC), vs = [.ref r, .ref c] ∧ H r = some (.ins A.c_Record dx (recF dl cl)) ∧ IL H dl (nums acts) ∧ H cl = some (.lst (ca.map V.ref)) ∧ H c = some (.ins A.c_Command dx2 (cmdF m a l o t x)) ∧ ca.length ≤ 1024 ∧
  (acts = [] → Q (.int (-2)) H) ∧ (acts ≠ [] → ca.length = 1024 → Q (.int (-28)) H) ∧
  (acts ≠ [] → ca.length < 1024 → ∀ H', Kp [c, cl] H H' → H' c = some (.ins A.c_Command dx2 (cmdF (m.kept (ca.length : Nat) ((acts.length - 1 : Nat) : Int)) a l o t x)) → H' cl = some (.lst ((ca ++ [c]).map V.ref)) → Q (.int (ca.length : Nat)) H')
def sp_Record_add_command (A : Ad) : Sp := fun vs H Q _ => ∃ (r dx dl cl c dx2 a l o t x : Addr) (acts : List Nat) (ca : List Addr) (m : MC), vs = [.ref r, .ref c] ∧ H r = some (.ins A.c_Record dx (recF dl cl)) ∧ IL H dl (nums acts) ∧ H cl = some (.lst (ca.map V.ref)) ∧ H c = some (.ins A.c_Command dx2 (cmdF m a l o t x)) ∧ CmdAt A H c m ∧ ca.length ≤ 1024 ∧
  (mSound m = false → Q (.int (-1)) H) ∧ (mSound m = true → acts = [] → Q (.int (-2)) H) ∧ (mSound m = true → acts ≠ [] → ca.length = 1024 → Q (.int (-28)) H) ∧
  (mSound m = true → acts ≠ [] → ca.length < 1024 → ∀ H', Kp [c, cl] H H' → H' c = some (.ins A.c_Command dx2 (cmdF (m.kept (ca.length : Nat) ((acts.length - 1 : Nat) : Int)) a l o t x)) → H' cl = some (.lst ((ca ++ [c]).map V.ref)) → Q (.int (ca.length : Nat)) H')
def MC.void (n k tg : Int) : MC := ⟨7, n, k, 0, 0, 0, 0, tg, [], [], [], [], []⟩
def sp_Record_add_void (A : Ad) : Sp := fun vs H Q _ => ∃ (r dx dl cl : Addr) (acts : List Nat) (ca : List Addr) (tg : Nat), vs = [.ref r, .int (tg : Nat)] ∧ H r = some (.ins A.c_Record dx (recF dl cl)) ∧ IL H dl (nums acts) ∧ H cl = some (.lst (ca.map V.ref)) ∧ ca.length ≤ 1024 ∧
  (∀ H', Same H H' → (if ca.length ≤ tg then True else acts = [] ∨ ca.length = 1024) → Q (.int (if ca.length ≤ tg then -1 else if acts = [] then -2 else -28)) H') ∧
  (tg < ca.length → acts ≠ [] → ca.length < 1024 → ∀ H' c, H c = none → Kp [cl] H H' → CmdAt A (nw H H' c) c (MC.void (ca.length : Nat) ((acts.length - 1 : Nat) : Int) (tg : Nat)) → H' cl = some (.lst ((ca ++ [c]).map V.ref)) → Q (.int (ca.length : Nat)) H')
section
variable {K : PySem.W.Frag} {mg : Str → Option Value} {A : Ad}
theorem pure_Record_init (T : Txt K mg A) (vs : List V) (H : Hp) (Q : VK) (E : XK) (h : sp_Record_init A vs H Q E) : t_Record_init K A { nx := fun _ H' => Q .non H', rt := Q } (L2.start ["self"] vs) H := by
  obtain ⟨r, dx, rfl, hr, q⟩ := h
  rw [t_Record_init, u_tSeq]
  simp [L2.start]
  refine alloc_new fun p1 H1 n1 e1 k1 => ?_
  simp [-upd_at, k1 _ _ hr, T.cl_Record, T.no_Record_days, T.no_Record_commands]
  have pr : p1 ≠ r := (ne_of_none hr n1).symm
  generalize hH2 : upd H1 r _ = H2
  have e2 : H2 r = some (.ins A.c_Record dx [("days", .ref p1)]) := by rw [← hH2, upd_same]
  have k2 : Kp [r] H1 H2 := by rw [← hH2]; exact Kp.wr (by simp)
  have e1' : H2 p1 = some (.lst []) := k2 _ _ (by simpa using pr) e1
  refine alloc_new fun p2 H3 n3 e3 k3 => ?_
  simp [-upd_at, k3 _ _ e2, T.cl_Record, T.no_Record_commands]
  have p2r : p2 ≠ r := (ne_of_none e2 n3).symm
  have p12 : p1 ≠ p2 := ne_of_none e1' n3
  have n3' : H p2 = none := Kp.none (S := [r]) ((Same.kp k1).trans k2) (by simpa using p2r) n3
  refine q _ p1 p2 n1 n3' p12 upd_same (by rw [upd_ne pr]; exact k3 _ _ e1') (by rw [upd_ne p2r]; exact e3) ?_
  exact (((Same.kp k1).trans k2).trans (Same.kp k3)).trans (Kp.wr (by simp))
theorem pure_Record_last_act (T : Txt K mg A) (vs : List V) (H : Hp) (Q : VK) (E : XK) (h : sp_Record_last_act A vs H Q E) : t_Record_last_act K A { nx := fun _ H' => Q .non H', rt := Q } (L2.start ["self"] vs) H := by
  obtain ⟨r, dx, dl, cl, acts, rfl, hr, hd, q⟩ := h
  unfold recF at hr
  simp [t_Record_last_act, L2.start, hr, T.cl_Record, T.no_Record_days]
  refine len_of hd ?_
  simpa using q
theorem last_get {acts : List Nat} (h : acts ≠ []) : ∃ d, acts[acts.length - 1]? = some d ∧ acts.getLast? = some d := by
  refine ⟨acts.getLast h, ?_, List.getLast?_eq_getLast h⟩
  rw [← List.getLast?_eq_getElem?, List.getLast?_eq_getLast h]
theorem pure_Record_is_before_last_act (T : Txt K mg A) (vs : List V) (H : Hp) (Q : VK) (E : XK) (h : sp_Record_is_before_last_act A vs H Q E) : t_Record_is_before_last_act K A (sp_Record_last_act A) { nx := fun _ H' => Q .non H', rt := Q } (L2.start ["self", "day"] vs) H := by
  obtain ⟨r, dx, dl, cl, acts, day, rfl, hr, hd, q⟩ := h
  have hr' := hr
  unfold recF at hr'
  simp [t_Record_is_before_last_act, L2.start, hr', T.cl_Record, T.no_Record_days]
  refine len_of hd ?_
  simp
  cases acts with
  | nil =>
    simp
    simpa [isBefore] using q
  | cons d0 r0 =>
    obtain ⟨d, h1, h2⟩ := last_get (acts := d0 :: r0) (by simp)
    simp [hr', T.cl_Record, T.no_Record_days]
    refine ⟨r, dx, dl, cl, d0 :: r0, rfl, hr, hd, ?_⟩
    refine ix_of' (i := (d0 :: r0).length - 1) (SqL.of hd) (by simp) (nums_get h1) ?_
    simp
    unfold isBefore at q
    rw [h2] at q
    simpa using q
theorem pure_Record_add_act (T : Txt K mg A) (vs : List V) (H : Hp) (Q : VK) (E : XK) (h : sp_Record_add_act A vs H Q E) : t_Record_add_act K A (sp_Record_is_before_last_act A) (sp_Record_last_act A) sp_is_day { nx := fun _ H' => Q .non H', rt := Q } (L2.start ["self", "day"] vs) H := by
  obtain ⟨r, dx, dl, cl, acts, day, rfl, hr, hd, hz, q⟩ := h
  have hr' := hr
  unfold recF at hr'
  rw [t_Record_add_act, u_tSeq]
  simp [L2.start, sp_is_day]
  have rest : 1048576 < day ∨ isBefore acts day = true → Q (.int (-1)) H := fun h => by
    have e : mAct acts day = (acts, -1) := by unfold mAct; rw [if_pos h]
    have := q H Kp.refl
    rw [e] at this
    exact this hd
  by_cases h1 : (day : Int) ≤ 1048576
  · rw [if_pos h1]
    simp [hr']
    refine ⟨r, dx, dl, cl, acts, day, rfl, hr, hd, ?_⟩
    simp only [asB_bl]
    by_cases h2 : isBefore acts day = true
    · rw [if_pos h2]
      exact rest (.inr h2)
    · rw [if_neg h2]
      have hno : ¬ (1048576 < day ∨ isBefore acts day = true) := by
        rintro (z | z)
        · omega
        · exact h2 z
      rw [u_tSeq]
      simp [hr', T.cl_Record, T.no_Record_days]
      refine len_of hd ?_
      simp
      by_cases h3 : acts.length = 512
      · rw [if_pos (by omega)]
        have e : mAct acts day = (acts, -28) := by unfold mAct; rw [if_neg hno, if_pos (by omega)]
        have := q H Kp.refl
        rw [e] at this
        exact this hd
      · rw [if_neg (by omega)]
        rw [u_tSeq]
        simp [-upd_at, hr', T.cl_Record, T.no_Record_days]
        have hd' : H dl = some (.lst ((nums acts).map V.int)) := hd
        simp only [hd', lstO_some]
        refine ⟨.inl ⟨rfl, _, SqL.of hd⟩, by simp; rw [sz]; omega, ?_⟩
        have rdl : r ≠ dl := ne_of hr hd (by intro z; cases z)
        generalize hH2 : upd H dl _ = H2
        have e2 : IL H2 dl (nums (acts ++ [day])) := by
          unfold IL
          rw [← hH2, upd_same]; simp [nums_app, Kcs5Neutral.nums]
        have r2 : H2 r = some (.ins A.c_Record dx (recF dl cl)) := by rw [← hH2, upd_ne rdl]; exact hr
        have k2 : Kp [dl] H H2 := by rw [← hH2]; exact Kp.wr (by simp)
        have r2' := r2
        unfold recF at r2'
        simp [r2']
        refine ⟨r, dx, dl, cl, acts ++ [day], rfl, r2, e2, ?_⟩
        have e : mAct acts day = (acts ++ [day], ((acts.length : Nat) : Int)) := by unfold mAct; rw [if_neg hno, if_neg (by omega)]
        have := q H2 k2
        rw [e] at this
        have q' := this e2
        simpa using q'
  · rw [if_neg h1]
    exact rest (.inl (by omega))
theorem pure_Record_keep (T : Txt K mg A) (vs : List V) (H : Hp) (Q : VK) (E : XK) (h : sp_Record_keep A vs H Q E) : t_Record_keep K A (sp_Record_last_act A) { nx := fun _ H' => Q .non H', rt := Q } (L2.start ["self", "command"] vs) H := by
  obtain ⟨r, dx, dl, cl, c, dx2, a, l, o, t, x, acts, ca, m, rfl, hr, hd, hcl, hc, hz, q1, q2, q3⟩ := h
  have hr' := hr
  unfold recF at hr'
  have rc : r ≠ c := fun e => by
    rw [e, hc] at hr
    have := Option.some.inj hr
    simp [cmdF, recF] at this
  have dlc : dl ≠ c := ne_of hd hc (by intro z; cases z)
  have clc : cl ≠ c := ne_of hcl hc (by intro z; cases z)
  have rcl : r ≠ cl := ne_of hr hcl (by intro z; cases z)
  rw [t_Record_keep, u_tSeq]
  simp [L2.start, hr', T.cl_Record, T.no_Record_days]
  refine len_of hd ?_
  simp
  by_cases h0 : acts = []
  · rw [if_pos h0]; exact q1 h0
  rw [if_neg h0]
  rw [u_tSeq]
  simp [hr', T.cl_Record, T.no_Record_commands]
  refine len_of hcl ?_
  simp
  by_cases h1 : ca.length = 1024
  · rw [if_pos (by omega)]; exact q2 h0 h1
  rw [if_neg (by omega)]
  rw [u_tSeq]
  simp [-upd_at, hr', hc]
  refine ⟨r, dx, dl, cl, acts, rfl, hr, hd, ?_⟩
  simp [-upd_at, hc, cmdF, T.cl_Command, T.no_Command_act]
  rw [u_tSeq]
  generalize hH2 : upd H c _ = H2
  have r2 : H2 r = some (.ins A.c_Record dx [("days", .ref dl), ("commands", .ref cl)]) := by rw [← hH2, upd_ne rc]; exact hr'
  have l2 : H2 cl = some (.lst (ca.map V.ref)) := by rw [← hH2, upd_ne clc]; exact hcl
  have k2 : Kp [c, cl] H H2 := by rw [← hH2]; exact Kp.wr (by simp)
  have al : 0 < acts.length := List.length_pos_iff.mpr h0
  have c2 : H2 c = some (.ins A.c_Command dx2 (cmdF (m.kept m.number ((acts.length - 1 : Nat) : Int)) a l o t x)) := by
    rw [← hH2, upd_same]
    simp [cmdF, MC.kept]
    omega
  unfold cmdF at c2
  clear hH2
  simp [-upd_at, r2, T.cl_Record, T.no_Record_commands]
  refine len_of l2 ?_
  simp [-upd_at, c2, T.cl_Command, T.no_Command_number]
  rw [u_tSeq]
  generalize hH3 : upd H2 c _ = H3
  have r3 : H3 r = some (.ins A.c_Record dx [("days", .ref dl), ("commands", .ref cl)]) := by rw [← hH3, upd_ne rc]; exact r2
  have l3 : H3 cl = some (.lst (ca.map V.ref)) := by rw [← hH3, upd_ne clc]; exact l2
  have k3 : Kp [c, cl] H H3 := by rw [← hH3]; exact k2.trans (Kp.wr (by simp))
  have c3 : H3 c = some (.ins A.c_Command dx2 (cmdF (m.kept (ca.length : Nat) ((acts.length - 1 : Nat) : Int)) a l o t x)) := by
    rw [← hH3, upd_same]
    simp [cmdF, MC.kept]
  clear hH3
  simp [-upd_at, r3, T.cl_Record, T.no_Record_commands, l3]
  refine ⟨.inl ⟨rfl, _, SqL.of l3⟩, by rw [sz]; omega, ?_⟩
  have c4 : upd H3 cl (.lst (ca.map V.ref ++ [.ref c])) c = _ := (upd_ne clc.symm).trans c3
  generalize hH4 : upd H3 cl _ = H4 at c4
  have l4 : H4 cl = some (.lst ((ca ++ [c]).map V.ref)) := by rw [← hH4, upd_same]; simp
  have k4 : Kp [c, cl] H H4 := by rw [← hH4]; exact k3.trans (Kp.wr (by simp))
  have c4' := c4
  unfold cmdF at c4'
  simp [-upd_at, c4', T.cl_Command, T.no_Command_number]
  exact q3 h0 (by omega) H4 k4 c4 l4
theorem pure_Record_add_command (T : Txt K mg A) (vs : List V) (H : Hp) (Q : VK) (E : XK) (h : sp_Record_add_command A vs H Q E) : t_Record_add_command K A (sp_Record_keep A) (sp_is_sound A) { nx := fun _ H' => Q .non H', rt := Q } (L2.start ["self", "command"] vs) H := by
  obtain ⟨r, dx, dl, cl, c, dx2, a, l, o, t, x, acts, ca, m, rfl, hr, hd, hcl, hc, hC, hz, q0, q1, q2, q3⟩ := h
  have hr' := hr
  unfold recF at hr'
  rw [t_Record_add_command, u_tSeq]
  simp [L2.start]
  refine ⟨c, m, rfl, hC, ?_⟩
  simp only [asB_bl]
  cases hs : mSound m with
  | false => simpa using q0 hs
  | true =>
    simp [hr']
    exact ⟨r, dx, dl, cl, c, dx2, a, l, o, t, x, acts, ca, m, rfl, hr, hd, hcl, hc, hz, q1 hs, q2 hs, q3 hs⟩
theorem pure_Record_add_void (T : Txt K mg A) (vs : List V) (H : Hp) (Q : VK) (E : XK) (h : sp_Record_add_void A vs H Q E) : t_Record_add_void K A (sp_Command_init A) (sp_Record_keep A) { nx := fun _ H' => Q .non H', rt := Q } (L2.start ["self", "target", "command"] vs) H := by
  obtain ⟨r, dx, dl, cl, acts, ca, tg, rfl, hr, hd, hcl, hz, q1, q2⟩ := h
  have hr' := hr
  unfold recF at hr'
  rw [t_Record_add_void, u_tSeq]
  simp [L2.start, hr', T.cl_Record, T.no_Record_commands]
  refine len_of hcl ?_
  simp
  by_cases h0 : ca.length ≤ tg
  · rw [if_pos h0]
    have := q1 H (Same.refl _) (by rw [if_pos h0]; trivial)
    rw [if_pos h0] at this
    exact this
  rw [if_neg h0]
  rw [u_tSeq]
  simp
  intro c dx2 nc nd ncd
  refine ⟨c, dx2, 7, rfl, by simp, fun H1 C1 K1 => ⟨rfl, ?_⟩⟩
  have s1 : Same H H1 := fun b u e => K1 b u (by simp; exact ne_of_none e nc) (by rw [upd_ne (ne_of_none e nc), upd_ne (ne_of_none e nd)]; exact e)
  have C1' : CmdAt A (nw H H1 c) c (.fresh 7) := C1.mono (by
    intro b u e
    have e2 := nw_some e
    rcases e2.1 with rfl | e3
    · rw [nw_at]; exact e2.2
    · by_cases hb : b = c
      · subst hb; rw [nw_at]; exact e2.2
      · rw [upd_ne hb] at e3
        by_cases hdd : b = dx2
        · subst hdd; rw [upd_same] at e3; cases e3
        · rw [upd_ne hdd] at e3
          rw [nw_new e3]; exact e2.2)
  obtain ⟨dx3, a, l, o, t, x, g0, g1, g2, g3, g4, g5⟩ := C1'
  rw [nw_at] at g0
  have g0' := g0
  unfold cmdF at g0'
  rw [u_tSeq]
  simp [-upd_at, g0', T.cl_Command, T.no_Command_target]
  generalize hH2 : upd H1 c _ = H2
  have c2 : H2 c = some (.ins A.c_Command dx3 (cmdF (MC.void 0 0 (tg : Nat)) a l o t x)) := by
    rw [← hH2, upd_same]; simp [cmdF, MC.void, MC.fresh]
  have k2 : Kp [c] H1 H2 := by rw [← hH2]; exact Kp.wr (by simp)
  have s2 : Same H H2 := same_kp nc s1 k2
  have ls : ∀ {b : Addr} {xs : List V}, nw H H1 c b = some (.lst xs) → H b = none ∧ b ≠ c ∧ H2 b = some (.lst xs) := fun {b xs} e => by
    have e2 := nw_some e
    have bc : b ≠ c := ne_of e2.2 g0 (by intro z; cases z)
    refine ⟨?_, bc, k2 _ _ (by simpa using bc) e2.2⟩
    rcases e2.1 with z | z
    · exact absurd z bc
    · exact z
  have r2 := s2 _ _ hr'
  simp [-upd_at, r2]
  have fin : ∀ H3 : Hp, Kp [c, cl] H2 H3 → H3 c = some (.ins A.c_Command dx3 (cmdF ((MC.void 0 0 (tg : Nat)).kept (ca.length : Nat) ((acts.length - 1 : Nat) : Int)) a l o t x)) → CmdAt A (nw H H3 c) c (MC.void (ca.length : Nat) ((acts.length - 1 : Nat) : Int) (tg : Nat)) := by
    intro H3 k3 e3
    have g : ∀ {b : Addr} {xs : List V}, nw H H1 c b = some (.lst xs) → nw H H3 c b = some (.lst xs) := fun {b xs} e => by
      obtain ⟨z1, z2, z3⟩ := ls e
      rw [nw_new z1]
      exact k3 _ _ (by simp [z2]; exact (ne_of_none hcl z1).symm) z3
    refine ⟨dx3, a, l, o, t, x, by rw [nw_at]; exact e3, g g1, g g2, g g3, g g4, g g5⟩
  refine ⟨r, dx, dl, cl, c, dx3, a, l, o, t, x, acts, ca, _, rfl, s2 _ _ hr, s2 _ _ hd, s2 _ _ hcl, c2, hz, fun h => ?_, fun h h' => ?_, fun h h' H3 k3 e3 e4 => ?_⟩
  · have := q1 H2 s2 (by rw [if_neg h0]; exact .inl h)
    rw [if_neg h0, if_pos h] at this
    exact this
  · have := q1 H2 s2 (by rw [if_neg h0]; exact .inr h')
    rw [if_neg h0, if_neg h] at this
    exact this
  · refine q2 (by omega) h h' H3 c nc (fun b u nb eb => k3 b u ?_ (s2 _ _ eb)) (fin H3 k3 e3) e4
    simp at nb ⊢
    exact ⟨ne_of_none eb nc, nb⟩
end
end LD

namespace LD
open PySem PySem.Spec PyProof.Rows L2
/-! ### how the object lies in a heap -/
structure Cr where
  law : Nat
  c : Addr
  dx : Addr
  st : Addr
  as : List Addr
  ns : List Nat
structure Lay where
  lw : Addr
  dlw : Addr
  r : Addr
  dr : Addr
  dl : Addr
  cl : Addr
  d : Addr
  ca : List Addr
  crs : List Cr
def Cr.cells (A : Ad) (x : Cr) : Cells := [(x.c, .ins A.c_Course x.dx (crsF x.st)), (x.st, .lst (x.as.map V.ref))]
def lawF (r d : Addr) : List (Str × V) := [("record", .ref r), ("courses", .ref d)]
def crKv (x : Cr) : Key × V := (kI x.law, .ref x.c)
def Lay.base (A : Ad) (L : Lay) (acts : List Nat) : Cells :=
  [(L.lw, .ins A.c_Laws L.dlw (lawF L.r L.d)), (L.r, .ins A.c_Record L.dr (recF L.dl L.cl)), (L.dl, .lst ((nums acts).map V.int)), (L.cl, .lst (L.ca.map V.ref)), (L.d, .dK (L.crs.map crKv))]
def Lay.cells (A : Ad) (L : Lay) (acts : List Nat) : Cells := L.base A acts ++ L.crs.flatMap (Cr.cells A)
/-- what isn't to be looked at -/
def Ms (A : Ad) (fr : Cells) (L : Lay) (acts : List Nat) : List Addr := A.P_in_order :: keys (fr ++ L.cells A acts)
def VW (A : Ad) (fr : Cells) (L : Lay) (acts : List Nat) (H : Hp) : Hp := wo H (Ms A fr L acts)
structure CrOk (A : Ad) (I : Hp) (s : Kcs5.Abs) (x : Cr) : Prop where
  steps : All2 (StepAt A I) x.as (stepsOf (what s) [] x.ns)
  lt : ∀ n ∈ x.ns, n < s.commands.length
  len : x.ns.length ≤ 1024
  law : x.law < 64
structure StA (A : Ad) (fr : Cells) (L : Lay) (s : Kcs5.Abs) (H : Hp) : Prop where
  at_ : At (fr ++ L.cells A s.acts) H
  tab : LamX.TabS H A.P_in_order qLam
  wf : Wf s
  cmd : All2 (CmdR A s.acts (VW A fr L s.acts H)) L.ca (idx s)
  crs : ∀ x ∈ L.crs, CrOk A (VW A fr L s.acts H) s x
  nd : (L.crs.map (·.law)).Nodup
/-! what isn't a table stays -/
theorem il_n {I I' : Hp} {a : Addr} {xs : List V} (k : LamX.ExtN I I') (h : I a = some (.lst xs)) : I' a = some (.lst xs) := k _ _ h fun _ z => by cases z
theorem ins_n {I I' : Hp} {a C dx : Addr} {fs : List (Str × V)} (k : LamX.ExtN I I') (h : I a = some (.ins C dx fs)) : I' a = some (.ins C dx fs) := k _ _ h fun _ z => by cases z
theorem SecAt.mn {A : Ad} {I I' : Hp} {a : Addr} {s : Kcs5.Section_} (h : SecAt A I a s) (k : LamX.ExtN I I') : SecAt A I' a s := by
  obtain ⟨dx, l, t, o, h0, h1, h2, h3⟩ := h.ex
  exact ⟨dx, l, t, o, ins_n k h0, il_n k h1, il_n k h2, il_n k h3⟩
theorem SecsAt.mn {A : Ad} {I I' : Hp} {a : Addr} {l : Kcs5.Law} (h : SecsAt A I a l) (k : LamX.ExtN I I') : SecsAt A I' a l := by
  obtain ⟨as, h0, h1⟩ := h
  exact ⟨as, il_n k h0, h1.imp fun _ _ r => r.mn k⟩
theorem StepAt.mn {A : Ad} {I I' : Hp} {a : Addr} {x : Stp} (h : StepAt A I a x) (k : LamX.ExtN I I') : StepAt A I' a x := by
  obtain ⟨dx, p, h0, h1⟩ := h.ex
  exact ⟨dx, p, ins_n k h0, h1.mn k⟩
theorem CmdAt.mn {A : Ad} {H H' : Hp} {c : Addr} {m : MC} (h : CmdAt A H c m) (k : LamX.ExtN H H') : CmdAt A H' c m := by
  obtain ⟨dx, a, l, o, t, x, h0, h1, h2, h3, h4, h5⟩ := h
  exact ⟨dx, a, l, o, t, x, ins_n k h0, il_n k h1, il_n k h2, il_n k h3, il_n k h4, il_n k h5⟩
theorem CmdR.mn {A : Ad} {acts : List Nat} {I I' : Hp} {a : Addr} {x : NC} (h : CmdR A acts I a x) (k : LamX.ExtN I I') : CmdR A acts I' a x := by
  obtain ⟨m, h1, h2⟩ := h
  exact ⟨m, h1.mn k, h2⟩
theorem CrOk.mn {A : Ad} {I I' : Hp} {s : Kcs5.Abs} {x : Cr} (h : CrOk A I s x) (k : LamX.ExtN I I') : CrOk A I' s x := ⟨h.steps.imp fun _ _ r => r.mn k, h.lt, h.len, h.law⟩
theorem Same.n {I I' : Hp} (k : Same I I') : LamX.ExtN I I' := fun b o e _ => k b o e
theorem CrOk.mono {A : Ad} {I I' : Hp} {s : Kcs5.Abs} {x : Cr} (h : CrOk A I s x) (k : Same I I') : CrOk A I' s x := ⟨steps_mono h.steps k, h.lt, h.len, h.law⟩
section
variable {A : Ad} {fr fr' : Cells} {L L' : Lay} {s : Kcs5.Abs} {H H' : Hp}
theorem StA.ok (h : StA A fr L s H) : Ok (Ms A fr L s.acts) H := fun b m => by
  simp only [Ms, List.mem_cons] at m
  rcases m with rfl | m
  · obtain ⟨ps, e, _⟩ := h.tab
    rw [e]; simp
  · exact h.at_.ne b m
theorem StA.cellsAt (h : StA A fr L s H) : At (L.cells A s.acts) H := h.at_.right
theorem StA.baseAt (h : StA A fr L s H) : At (L.base A s.acts) H := h.at_.right.left
theorem StA.lw (h : StA A fr L s H) : H L.lw = some (.ins A.c_Laws L.dlw (lawF L.r L.d)) := h.baseAt.mem (by simp [Lay.base])
theorem StA.r (h : StA A fr L s H) : H L.r = some (.ins A.c_Record L.dr (recF L.dl L.cl)) := h.baseAt.mem (by simp [Lay.base])
theorem StA.dl (h : StA A fr L s H) : IL H L.dl (nums s.acts) := h.baseAt.mem (by simp [Lay.base])
theorem StA.cl (h : StA A fr L s H) : H L.cl = some (.lst (L.ca.map V.ref)) := h.baseAt.mem (by simp [Lay.base])
theorem StA.d (h : StA A fr L s H) : H L.d = some (.dK (L.crs.map crKv)) := h.baseAt.mem (by simp [Lay.base])
theorem StA.cr (h : StA A fr L s H) {x : Cr} (m : x ∈ L.crs) : H x.c = some (.ins A.c_Course x.dx (crsF x.st)) ∧ H x.st = some (.lst (x.as.map V.ref)) := by
  have hc := h.at_.right.right
  refine ⟨hc.mem ?_, hc.mem ?_⟩ <;> (rw [List.mem_flatMap]; exact ⟨x, m, by simp [Cr.cells]⟩)
theorem StA.frAt (h : StA A fr L s H) : At fr H := h.at_.left
/-- nothing but new things came -/
theorem StA.same (h : StA A fr L s H) (k : Same H H') : StA A fr L s H' :=
  ⟨h.at_.same k, tab_same h.tab k, h.wf, h.cmd.imp fun _ _ r => r.mono (vw_up k), fun x m => (h.crs x m).mono (vw_up k), h.nd⟩
/-- another way of looking at the same -/
theorem StA.re (h : StA A fr L s H) (hat : At (fr' ++ L'.cells A s.acts) H') (ht : LamX.TabS H' A.P_in_order qLam) (v : Same (VW A fr L s.acts H) (VW A fr' L' s.acts H')) (eca : L'.ca = L.ca)
    (hcr : ∀ x ∈ L'.crs, x ∈ L.crs ∨ CrOk A (VW A fr' L' s.acts H') s x) (nd : (L'.crs.map (·.law)).Nodup) : StA A fr' L' s H' :=
  ⟨hat, ht, h.wf, by rw [eca]; exact h.cmd.imp fun _ _ r => r.mono v, fun x m => (hcr x m).elim (fun m' => (h.crs x m').mono v) id, nd⟩
theorem StA.notP (h : StA A fr L s H) : A.P_in_order ∉ keys (fr ++ L.cells A s.acts) := tab_notin h.tab h.at_
/-- one more in the frame -/
theorem StA.add {p : Addr} {o : HO} (h : StA A fr L s H) (n : H p = none) (k : Same H H') (e : H' p = some o) (hp : Pl o) : StA A ((p, o) :: fr) L s H' ∧ Same (VW A fr L s.acts H) (VW A ((p, o) :: fr) L s.acts H') := by
  have v : Same (VW A fr L s.acts H) (VW A ((p, o) :: fr) L s.acts H') := vw_same fun b u nb eb => by
    refine ⟨?_, k b u eb⟩
    simp only [Ms, List.mem_cons, not_or, List.cons_append, keys_cons] at nb ⊢
    exact ⟨nb.1, ne_of_none eb n, nb.2⟩
  exact ⟨h.re (by rw [List.cons_append]; exact h.at_.add n k e hp) (tab_same h.tab k) v rfl (fun x m => .inl m) h.nd, v⟩
/-- one less -/
theorem StA.drop {p : Addr × HO} (h : StA A (p :: fr) L s H) : StA A fr L s H ∧ Same (VW A (p :: fr) L s.acts H) (VW A fr L s.acts H) := by
  have v : Same (VW A (p :: fr) L s.acts H) (VW A fr L s.acts H) := vw_same fun b u nb eb => by
    refine ⟨?_, eb⟩
    simp only [Ms, List.mem_cons, not_or, List.cons_append] at nb ⊢
    exact ⟨nb.1, fun m => nb.2 (by simp [keys] at m ⊢; exact .inr m)⟩
  have hat := h.at_
  rw [List.cons_append] at hat
  exact ⟨h.re hat.tl h.tab v rfl (fun x m => .inl m) h.nd, v⟩
/-- the head of the frame is written -/
theorem StA.set {b : Addr} {o o' : HO} (h : StA A ((b, o) :: fr) L s H) (e : H' b = some o') (hp : Pl o') (k : Kp [b] H H') : StA A ((b, o') :: fr) L s H' ∧ Same (VW A ((b, o) :: fr) L s.acts H) (VW A ((b, o') :: fr) L s.acts H') := by
  have v : Same (VW A ((b, o) :: fr) L s.acts H) (VW A ((b, o') :: fr) L s.acts H') := vw_same fun c u nb eb => by
    simp only [Ms, List.mem_cons, not_or, List.cons_append, keys_cons] at nb ⊢
    exact ⟨nb, k c u (by simpa using nb.2.1) eb⟩
  have hat := h.at_
  rw [List.cons_append] at hat
  have hat' : At ((b, o') :: (fr ++ L.cells A s.acts)) H' := hat.chg e hp k
  refine ⟨h.re (by rw [List.cons_append]; exact hat') ?_ v rfl (fun x m => .inl m) h.nd, v⟩
  exact tab_kp h.tab (fun c m => by simp at m; subst m; exact ⟨o, hat.hd, hat.pl (c, o) (by simp)⟩) k
theorem StA.perm (h : StA A fr L s H) (p : fr.Perm fr') : StA A fr' L s H ∧ Same (VW A fr L s.acts H) (VW A fr' L s.acts H) := by
  have pk : (keys (fr ++ L.cells A s.acts)).Perm (keys (fr' ++ L.cells A s.acts)) := (p.append_right _).map _
  have v : Same (VW A fr L s.acts H) (VW A fr' L s.acts H) := vw_same fun b u nb eb => by
    refine ⟨?_, eb⟩
    simp only [Ms, List.mem_cons, not_or] at nb ⊢
    exact ⟨nb.1, fun m => nb.2 (pk.mem_iff.mpr m)⟩
  exact ⟨h.re (h.at_.perm (p.append_right _)) h.tab v rfl (fun x m => .inl m) h.nd, v⟩
/-- only the tables grew -/
theorem StA.ext (h : StA A fr L s H) (k : LamX.ExtN H H') (ht : LamX.TabS H' A.P_in_order qLam) : StA A fr L s H' ∧ LamX.ExtN (VW A fr L s.acts H) (VW A fr L s.acts H') := by
  have npl : ∀ {o : HO}, Pl o → ∀ ps, o ≠ .tbl ps := fun hp ps e => by subst e; exact hp
  have hat : At (fr ++ L.cells A s.acts) H' := ⟨h.at_.nd, fun p m => k _ _ (h.at_.at_ p m) (npl (h.at_.pl p m)), h.at_.pl⟩
  have hv : LamX.ExtN (VW A fr L s.acts H) (VW A fr L s.acts H') := fun b o e n => by
    obtain ⟨e1, e2⟩ := wo_some e
    exact (wo_out e1).trans (k b o e2 n)
  exact ⟨⟨hat, ht, h.wf, h.cmd.imp fun _ _ r => r.mn hv, fun x m => (h.crs x m).mn hv, h.nd⟩, hv⟩
/-- the commands with their places -/
def zsOf (L : Lay) (s : Kcs5.Abs) : List ZC := L.ca.zip (idx s)
theorem StA.zl (h : StA A fr L s H) : ZL H L.cl (zsOf L s) := by
  unfold ZL zsOf
  rw [show (fun z : ZC => V.ref z.1) = V.ref ∘ Prod.fst from rfl, ← List.map_map, zip_fst h.cmd]
  exact h.cl
theorem StA.zcf (h : StA A fr L s H) : ∀ z ∈ zsOf L s, CmdR A s.acts (VW A fr L s.acts H) z.1 z.2 ∧ z.2 ∈ idx s := fun z hz => ⟨zip_mem h.cmd z hz, (List.of_mem_zip hz).2⟩
theorem StA.zlen (h : StA A fr L s H) : (zsOf L s).length ≤ 1024 := by
  unfold zsOf
  have := h.cmd.len
  have := h.wf.many
  rw [idx_len] at *
  simp [idx_len]
  omega
end
end LD

namespace LD
open PySem PySem.Spec PyProof.Rows L2
theorem nodup_lt : ∀ (k : Nat) (l : List Nat), l.Nodup → (∀ n ∈ l, n < k) → l.length ≤ k
  | 0, l, _, h => by
    cases l with
    | nil => simp
    | cons x r => exact absurd (h x (by simp)) (by omega)
  | k + 1, l, hn, h => by
    have ih := nodup_lt k (l.erase k) (hn.erase k) fun n hm => by
      rw [hn.mem_erase_iff] at hm
      have := h n hm.2
      omega
    have := List.length_erase_of_mem (a := k) (l := l)
    by_cases hk : k ∈ l
    · have := this hk; omega
    · rw [List.erase_of_not_mem hk] at ih; omega
theorem At.repl {x y : Cells} {b : Addr} {o o' : HO} {H H' : Hp} (h : At (x ++ (b, o) :: y) H) (e : H' b = Option.some o') (hp : Pl o') (k : Kp [b] H H') : At (x ++ (b, o') :: y) H' := by
  have p : (x ++ (b, o) :: y).Perm ((b, o) :: (x ++ y)) := List.perm_middle
  have p' : ((b, o') :: (x ++ y)).Perm (x ++ (b, o') :: y) := List.perm_middle.symm
  exact ((h.perm p).chg e hp k).perm p'
theorem At.ins {mu : Cells} {p : Addr} {o : HO} {H : Hp} (h : At mu H) (n : p ∉ keys mu) (e : H p = Option.some o) (hp : Pl o) : At ((p, o) :: mu) H := by
  refine ⟨?_, fun q m => ?_, fun q m => ?_⟩
  · show (p :: keys mu).Nodup
    exact List.nodup_cons.mpr ⟨n, h.nd⟩
  · simp only [List.mem_cons] at m
    rcases m with rfl | m
    · exact e
    · exact h.at_ q m
  · simp only [List.mem_cons] at m
    rcases m with rfl | m
    · exact hp
    · exact h.pl q m
theorem Lay.cells_eq {A : Ad} {L : Lay} {acts : List Nat} : L.cells A acts = [(L.lw, .ins A.c_Laws L.dlw (lawF L.r L.d)), (L.r, .ins A.c_Record L.dr (recF L.dl L.cl)), (L.dl, .lst ((nums acts).map V.int)), (L.cl, .lst (L.ca.map V.ref))] ++ (L.d, .dK (L.crs.map crKv)) :: L.crs.flatMap (Cr.cells A) := by
  simp [Lay.cells, Lay.base]
/-! ### laws.py -/
def sp_Laws_new (A : Ad) (fs0 : List (Str × V) → Prop) : Sp := fun vs H Q _ => ∃ lw dx fs, vs = [.ref lw] ∧ H lw = some (.ins A.c_Laws dx fs) ∧ fs0 fs ∧ ∀ H' r dr dl cl d, H r = none → H dl = none → H cl = none → H d = none → dl ≠ cl →
  H' lw = some (.ins A.c_Laws dx (lawF r d)) → H' r = some (.ins A.c_Record dr (recF dl cl)) → H' dl = some (.lst []) → H' cl = some (.lst []) → H' d = some (.dK []) → Kp [lw] H H' → Q .non H'
def sp_Laws_init (A : Ad) : Sp := sp_Laws_new A fun fs => fs = []
def sp_Laws_begin (A : Ad) : Sp := sp_Laws_new A fun fs => ∃ r d, fs = lawF r d
def sp_Laws_course_of (A : Ad) : Sp := fun vs H Q _ => ∃ (fr : Cells) (L : Lay) (s : Kcs5.Abs) (law : Nat), vs = [.ref L.lw, .int (law : Nat)] ∧ StA A fr L s H ∧ law < 64 ∧
  ∀ H' L' x, StA A fr L' s H' → L'.lw = L.lw → x ∈ L'.crs → x.law = law → Same (VW A fr L s.acts H) (VW A fr L' s.acts H') → Q (.ref x.c) H'
section
variable {K : PySem.W.Frag} {mg : Str → Option Value} {A : Ad}
theorem mk_rec {H : Hp} {R : Addr → Hp → Prop} {E : XK} (h : ∀ x dx H2 dl cl, H x = none → H dl = none → H cl = none → dl ≠ cl → H2 x = some (.ins A.c_Record dx (recF dl cl)) → H2 dl = some (.lst []) → H2 cl = some (.lst []) → Same H H2 → R x H2) :
    ∀ x dx, H x = none → H dx = none → ¬ dx = x → sp_Record_init A [.ref x] (upd (upd H dx (.own x)) x (.ins A.c_Record dx [])) (fun v H2 => v = .non ∧ R x H2) E :=
  mk_new (R := fun x dx H2 => sp_Record_init A [.ref x] H2 (fun v H2 => v = .non ∧ R x H2) E) fun x dx H2 n1 e k => ⟨x, dx, rfl, e, fun H' dl cl n2 n3 n4 e2 e3 e4 k' =>
    ⟨rfl, h x dx H' dl cl n1 (Kp.none (S := []) (Same.kp k) (by simp) n2) (Kp.none (S := []) (Same.kp k) (by simp) n3) n4 e2 e3 e4 (same_kp n1 k k')⟩⟩
theorem laws_new (T : Txt K mg A) {fs : List (Str × V)} (hfs : fs = [] ∨ ∃ r d, fs = lawF r d) {lw dx : Addr} {H : Hp} {Q : VK} (hlw : H lw = some (.ins A.c_Laws dx fs))
    (q : ∀ H' r dr dl cl d, H r = none → H dl = none → H cl = none → H d = none → dl ≠ cl → H' lw = some (.ins A.c_Laws dx (lawF r d)) → H' r = some (.ins A.c_Record dr (recF dl cl)) → H' dl = some (.lst []) → H' cl = some (.lst []) → H' d = some (.dK []) → Kp [lw] H H' → Q .non H') :
    (tSeq (sFld K (tVar 0) (tMake A.c_Record (sp_Record_init A) [] E0 tNil) "record") (sFld K (tVar 0) tDNewK "courses")) { nx := fun _ H' => Q .non H', rt := Q } [some (.ref lw)] H := by
  rw [u_tSeq]
  simp [-u_sFld]
  rw [u_sFld]
  simp [-upd_at, -u_sFld]
  refine mk_rec fun r dr H1 dl cl n1 n2 n3 n4 e1 e2 e3 k1 => ?_
  have rlw : r ≠ lw := (ne_of_none hlw n1).symm
  have dlw : dl ≠ lw := (ne_of_none hlw n2).symm
  have clw : cl ≠ lw := (ne_of_none hlw n3).symm
  simp [-upd_at, -u_sFld, k1 _ _ hlw, T.cl_Laws, T.no_Laws_record]
  refine ⟨by rcases hfs with rfl | ⟨_, _, rfl⟩ <;> simp [lawF], ?_⟩
  generalize hH2 : upd H1 lw _ = H2
  have f2 : H2 lw = some (.ins A.c_Laws dx (putF "record" (.ref r) fs)) := by rw [← hH2, upd_same]
  have k2 : Kp [lw] H1 H2 := by rw [← hH2]; exact Kp.wr (by simp)
  clear hH2
  rw [u_sFld]
  simp
  refine alloc_new fun d H3 n5 e5 k3 => ?_
  have dd : d ≠ lw := (ne_of_none f2 n5).symm
  have n5' : H d = none := Kp.none (S := [lw]) ((Same.kp k1).trans k2) (by simpa using dd) n5
  simp [-upd_at, k3 _ _ f2, T.cl_Laws, T.no_Laws_courses]
  refine ⟨by rcases hfs with rfl | ⟨_, _, rfl⟩ <;> simp [lawF], ?_⟩
  have go : ∀ {b : Addr} {u : HO}, b ≠ lw → H1 b = some u → upd H3 lw (.ins A.c_Laws dx (putF "courses" (.ref d) (putF "record" (.ref r) fs))) b = some u := fun {b u} nb e => (upd_ne nb).trans (k3 _ _ (k2 _ _ (by simpa using nb) e))
  refine q _ r dr dl cl d n1 n2 n3 n5' n4 ?_ (go rlw e1) (go dlw e2) (go clw e3) ((upd_ne dd).trans e5) (fun b u nb e => go (by simpa using nb) (k1 _ _ e))
  rw [upd_same]
  rcases hfs with rfl | ⟨_, _, rfl⟩ <;> simp [lawF]
theorem pure_Laws_init (T : Txt K mg A) (vs : List V) (H : Hp) (Q : VK) (E : XK) (h : sp_Laws_init A vs H Q E) : t_Laws_init K A (sp_Record_init A) { nx := fun _ H' => Q .non H', rt := Q } (L2.start ["self"] vs) H := by
  obtain ⟨lw, dx, fs, rfl, hlw, hfs, q⟩ := h
  exact laws_new T (.inl hfs) hlw q
theorem pure_Laws_begin (T : Txt K mg A) (vs : List V) (H : Hp) (Q : VK) (E : XK) (h : sp_Laws_begin A vs H Q E) : t_Laws_begin K A (sp_Record_init A) { nx := fun _ H' => Q .non H', rt := Q } (L2.start ["self"] vs) H := by
  obtain ⟨lw, dx, fs, rfl, hlw, hfs, q⟩ := h
  exact laws_new T (.inr hfs) hlw q
/-- a new object -/
theorem st_fresh {fr : Cells} {H H' : Hp} {lw dx r dr dl cl d C dx0 : Addr} {fs : List (Str × V)} (hfr : At fr H) (hlw : lw ∉ keys fr) (tab : LamX.TabS H A.P_in_order qLam) (hl : H lw = some (.ins C dx0 fs)) (n1 : H r = none) (n2 : H dl = none) (n3 : H cl = none) (n4 : H d = none) (n5 : dl ≠ cl)
    (e0 : H' lw = some (.ins A.c_Laws dx (lawF r d))) (e1 : H' r = some (.ins A.c_Record dr (recF dl cl))) (e2 : H' dl = some (.lst [])) (e3 : H' cl = some (.lst [])) (e4 : H' d = some (.dK [])) (k : Kp [lw] H H') :
    StA A fr ⟨lw, dx, r, dr, dl, cl, d, [], []⟩ Kcs5.empty H' := by
  have rl : lw ≠ r := ne_of_none hl n1
  have at1 : At fr H' := hfr.kp k fun b m => by simp; exact fun e => hlw (e ▸ m)
  have at2 : At ((lw, .ins A.c_Laws dx (lawF r d)) :: (r, .ins A.c_Record dr (recF dl cl)) :: (dl, .lst []) :: (cl, .lst []) :: (d, .dK []) :: fr) H' := by
    have a1 := at1.ins (p := d) (hfr.notin n4) e4 trivial
    have a2 := a1.ins (p := cl) (by rw [keys_cons]; simp [hfr.notin n3]; exact ne_of e3 e4 (by intro z; cases z)) e3 trivial
    have a3 := a2.ins (p := dl) (by simp [keys_cons, hfr.notin n2]; exact ⟨n5, ne_of e2 e4 (by intro z; cases z)⟩) e2 trivial
    have a4 := a3.ins (p := r) (by simp [keys_cons, hfr.notin n1]; exact ⟨ne_of e1 e2 (by intro z; cases z), ne_of e1 e3 (by intro z; cases z), ne_of e1 e4 (by intro z; cases z)⟩) e1 trivial
    exact a4.ins (p := lw) (by simp [keys_cons, hlw]; exact ⟨rl, ne_of e0 e2 (by intro z; cases z), ne_of e0 e3 (by intro z; cases z), ne_of e0 e4 (by intro z; cases z)⟩) e0 trivial
  refine ⟨at2.perm ?_, ?_, wf_empty, ?_, by simp, by simp⟩
  · show List.Perm ([_, _, _, _, _] ++ fr) _
    rw [Lay.cells_eq]
    exact List.perm_append_comm
  · exact tab_kp tab (fun b m => by simp at m; subst m; exact ⟨_, hl, trivial⟩) k
  · exact .nil
theorem val_crs {crs : List Cr} {law : Nat} : valV (crs.map crKv) (kI law) = (crs.find? fun x => decide (x.law = law)).map fun x => .ref x.c := by
  induction crs with
  | nil => rfl
  | cons x r ih =>
    rw [List.map_cons, List.find?_cons]
    by_cases h : x.law = law
    · rw [valV_pos (show (crKv x).1 = kI law from kI_inj.mpr h)]
      simp [h, crKv]
    · rw [valV_neg (show ¬ (crKv x).1 = kI law from fun e => h (kI_inj.mp e)), ih]
      simp [h]
theorem mk_crs {H : Hp} {R : Addr → Hp → Prop} {E : XK} (h : ∀ x dx H2 st, H x = none → H st = none → x ≠ st → H2 x = some (.ins A.c_Course dx (crsF st)) → H2 st = some (.lst []) → Same H H2 → R x H2) :
    ∀ x dx, H x = none → H dx = none → ¬ dx = x → sp_Course_init A [.ref x] (upd (upd H dx (.own x)) x (.ins A.c_Course dx [])) (fun v H2 => v = .non ∧ R x H2) E :=
  mk_new (R := fun x dx H2 => sp_Course_init A [.ref x] H2 (fun v H2 => v = .non ∧ R x H2) E) fun x dx H2 n1 e k => ⟨x, dx, rfl, e, fun H' st n2 e2 e3 k' =>
    ⟨rfl, h x dx H' st n1 (Kp.none (S := []) (Same.kp k) (by simp) n2) (ne_of e2 e3 (by intro z; cases z)) e2 e3 (same_kp n1 k k')⟩⟩
theorem pure_Laws_course_of (T : Txt K mg A) (vs : List V) (H : Hp) (Q : VK) (E : XK) (h : sp_Laws_course_of A vs H Q E) : t_Laws_course_of K A (sp_Course_init A) { nx := fun _ H' => Q .non H', rt := Q } (L2.start ["self", "law"] vs) H := by
  obtain ⟨fr, L, s, law, rfl, hS, hlaw, q⟩ := h
  have hlw := hS.lw
  unfold lawF at hlw
  have hd := hS.d
  rw [t_Laws_course_of, u_tSeq]
  rw [u_tIfS, u_tB]
  unfold tDNotIn
  simp [-upd_at, L2.start, hlw, T.cl_Laws, T.no_Laws_courses]
  refine ⟨_, DGet.k (k := kI law) hd, ?_⟩
  have hv := @val_crs L.crs law
  -- the end: it is there
  have fin : ∀ (H1 : Hp) (L1 : Lay) (x : Cr), StA A fr L1 s H1 → L1.lw = L.lw → L1.crs.find? (fun x => decide (x.law = law)) = some x → Same (VW A fr L s.acts H) (VW A fr L1 s.acts H1) →
      tRet (tDGet (tFld K (tVar 0) "courses") (tVar 1)) { nx := fun x H' => Q V.non H', rt := Q } [some (.ref L.lw), some (.int (law : Nat))] H1 := by
    intro H1 L1 x h1 el hf v
    have hlw1 := h1.lw
    unfold lawF at hlw1
    rw [el] at hlw1
    rw [u_tRet]
    unfold tDGet
    simp [hlw1, T.cl_Laws, T.no_Laws_courses]
    have dg := DGet.k (k := kI law) h1.d
    rw [val_crs, hf] at dg
    refine ⟨_, dg, ?_⟩
    exact q H1 L1 x h1 el (List.mem_of_find?_eq_some hf) (by simpa using List.find?_some hf) v
  cases hf : L.crs.find? fun x => decide (x.law = law) with
  | some x =>
    rw [hv, hf]
    simp [-u_tRet]
    exact fin H L x hS rfl hf (Same.refl _)
  | none =>
    rw [hv, hf]
    simp [-u_tRet, -upd_at]
    unfold sDPut
    simp [-u_tRet, -upd_at]
    refine mk_crs fun c dx H1 st n1 n2 n3 e1 e2 k1 => ?_
    have S1 := hS.same k1
    have hlw1 := S1.lw
    unfold lawF at hlw1
    simp [-u_tRet, -upd_at, hlw1, T.cl_Laws, T.no_Laws_courses]
    have hnew : valV (L.crs.map crKv) (kI law) = none := by rw [hv, hf]; rfl
    have crl : L.crs.length ≤ 64 := by
      have := nodup_lt 64 _ hS.nd fun n hn => by
        rw [List.mem_map] at hn
        obtain ⟨x, hx, rfl⟩ := hn
        exact (hS.crs x hx).law
      simpa using this
    refine ⟨_, DPut.k (k := kI law) (v := .ref c) S1.d (by simp; rw [sz]; omega), ?_⟩
    rw [putK_new _ hnew]
    generalize hH2 : upd H1 L.d _ = H2
    have f2 : H2 L.d = some (.dK ((L.crs ++ [(⟨law, c, dx, st, [], []⟩ : Cr)]).map crKv)) := by rw [← hH2, upd_same]; simp [crKv]
    have k2 : Kp [L.d] H1 H2 := by rw [← hH2]; exact Kp.wr (by simp)
    clear hH2
    have hat1 := S1.at_
    rw [Lay.cells_eq, ← List.append_assoc] at hat1
    have hat2 := hat1.repl f2 trivial k2
    have hk0 : At (fr ++ L.cells A s.acts) H := hS.at_
    have c0 : c ∉ keys (fr ++ L.cells A s.acts) := hk0.notin n1
    have st0 : st ∉ keys (fr ++ L.cells A s.acts) := hk0.notin n2
    have ncd : c ≠ L.d := (ne_of_none hS.d n1).symm
    have nsd : st ≠ L.d := (ne_of_none hS.d n2).symm
    have keq : keys ((fr ++ [(L.lw, HO.ins A.c_Laws L.dlw (lawF L.r L.d)), (L.r, .ins A.c_Record L.dr (recF L.dl L.cl)), (L.dl, .lst ((nums s.acts).map V.int)), (L.cl, .lst (L.ca.map V.ref))]) ++ (L.d, .dK ((L.crs ++ [(⟨law, c, dx, st, [], []⟩ : Cr)]).map crKv)) :: L.crs.flatMap (Cr.cells A)) = keys (fr ++ L.cells A s.acts) := by
      rw [Lay.cells_eq]; simp [keys]
    have hat3 := hat2.ins (p := st) (by rw [keq]; exact st0) (k2 _ _ (by simpa using nsd) e2) trivial
    have hat4 := hat3.ins (p := c) (by rw [keys_cons, keq]; simp [c0, n3]) (k2 _ _ (by simpa using ncd) e1) trivial
    -- the new places
    have pm : List.Perm ((c, HO.ins A.c_Course dx (crsF st)) :: (st, HO.lst []) :: ((fr ++ [(L.lw, HO.ins A.c_Laws L.dlw (lawF L.r L.d)), (L.r, .ins A.c_Record L.dr (recF L.dl L.cl)), (L.dl, .lst ((nums s.acts).map V.int)), (L.cl, .lst (L.ca.map V.ref))]) ++ (L.d, .dK ((L.crs ++ [(⟨law, c, dx, st, [], []⟩ : Cr)]).map crKv)) :: L.crs.flatMap (Cr.cells A)))
        (fr ++ ({ L with crs := L.crs ++ [(⟨law, c, dx, st, [], []⟩ : Cr)] } : Lay).cells A s.acts) := by
      rw [Lay.cells_eq]
      simp only [List.flatMap_append, List.flatMap_cons, List.flatMap_nil, List.append_nil, Cr.cells, List.map_nil]
      rw [List.append_assoc, List.cons_append, List.cons_append]
      have : ∀ (a b : Addr × HO) (x y : Cells), List.Perm (a :: b :: (x ++ y)) (x ++ (y ++ [a, b])) := fun a b x y => by
        have h1 : List.Perm ([a, b] ++ (x ++ y)) ((x ++ y) ++ [a, b]) := List.perm_append_comm
        rw [List.append_assoc] at h1
        exact h1
      have h2 := this (c, HO.ins A.c_Course dx (crsF st)) (st, HO.lst []) fr ([(L.lw, HO.ins A.c_Laws L.dlw (lawF L.r L.d)), (L.r, .ins A.c_Record L.dr (recF L.dl L.cl)), (L.dl, .lst ((nums s.acts).map V.int)), (L.cl, .lst (L.ca.map V.ref))] ++ (L.d, .dK ((L.crs ++ [(⟨law, c, dx, st, [], []⟩ : Cr)]).map crKv)) :: L.crs.flatMap (Cr.cells A))
      simpa using h2
    have hat5 := hat4.perm pm
    have k12 : Kp [L.d] H H2 := (Same.kp k1).trans k2
    have v : Same (VW A fr L s.acts H) (VW A fr { L with crs := L.crs ++ [⟨law, c, dx, st, [], []⟩] } s.acts H2) := vw_same fun b u nb eb => by
      have bd : b ≠ L.d := fun e => nb (by
        rw [e]
        simp only [Ms, List.mem_cons]
        right
        rw [← keq]; simp [keys])
      refine ⟨?_, k12 b u (by simpa using bd) eb⟩
      simp only [Ms, List.mem_cons, not_or] at nb ⊢
      refine ⟨nb.1, fun m => ?_⟩
      have m2 : b ∈ c :: st :: keys (fr ++ L.cells A s.acts) := by
        have := (pm.map (·.1)).mem_iff.mpr m
        rw [← keq]
        exact this
      simp only [List.mem_cons] at m2
      rcases m2 with e | e | e
      · exact ne_of_none eb n1 e
      · exact ne_of_none eb n2 e
      · exact nb.2 e
    have tab2 : LamX.TabS H2 A.P_in_order qLam := tab_kp hS.tab (fun b m => by simp at m; subst m; exact ⟨_, hS.d, trivial⟩) k12
    have nolaw : ∀ x ∈ L.crs, x.law ≠ law := fun x hx e => by
      rw [List.find?_eq_none] at hf
      exact hf x hx (by simpa using e)
    have S2 : StA A fr { L with crs := L.crs ++ [⟨law, c, dx, st, [], []⟩] } s H2 := by
      refine hS.re hat5 tab2 v rfl (fun x m => ?_) ?_
      · simp only [List.mem_append, List.mem_singleton] at m
        rcases m with m | rfl
        · exact .inl m
        · exact .inr ⟨.nil, by simp, by simp, hlaw⟩
      · simp only [List.map_append, List.map_cons, List.map_nil]
        rw [List.nodup_append]
        refine ⟨hS.nd, by simp, fun a ha b hb => ?_⟩
        simp at hb
        subst hb
        rw [List.mem_map] at ha
        obtain ⟨x, hx, rfl⟩ := ha
        exact nolaw x hx
    refine fin H2 _ ⟨law, c, dx, st, [], []⟩ S2 rfl ?_ v
    rw [List.find?_append, hf]
    simp
end
end LD

namespace LD
open PySem PySem.Spec PyProof.Rows L2
section
variable {K : PySem.W.Frag} {mg : Str → Option Value} {A : Ad}
/-- a law's steps were taken anew -/
theorem StA.took {fr : Cells} {L : Lay} {s : Kcs5.Abs} {H H' : Hp} {pre post : List Cr} {x : Cr} {st' : Addr} {as' : List Addr} {cs : List Nat} (h : StA A fr L s H) (hx : L.crs = pre ++ x :: post) (k : Kp [x.c] H H') (n : H st' = none) (ec : H' x.c = some (.ins A.c_Course x.dx (crsF st'))) (es : H' st' = some (.lst (as'.map V.ref)))
    (hA : All2 (StepAt A (wo H' (st' :: Ms A fr L s.acts))) as' (stepsOf (what s) [] cs)) (hlt : ∀ n ∈ cs, n < s.commands.length) (hlen : cs.length ≤ 1024) :
    StA A fr { L with crs := pre ++ { x with st := st', as := as', ns := cs } :: post } s H' ∧ Same (VW A fr L s.acts H) (VW A fr { L with crs := pre ++ { x with st := st', as := as', ns := cs } :: post } s.acts H') ∧
      Same (wo H' (st' :: Ms A fr L s.acts)) (VW A fr { L with crs := pre ++ { x with st := st', as := as', ns := cs } :: post } s.acts H') := by
  have e0 : fr ++ L.cells A s.acts = (fr ++ L.base A s.acts ++ pre.flatMap (Cr.cells A)) ++ (x.c, HO.ins A.c_Course x.dx (crsF x.st)) :: (x.st, .lst (x.as.map V.ref)) :: post.flatMap (Cr.cells A) := by
    simp [Lay.cells, hx, List.flatMap_append, Cr.cells, List.append_assoc]
  have e1 : fr ++ ({ L with crs := pre ++ { x with st := st', as := as', ns := cs } :: post } : Lay).cells A s.acts = (fr ++ L.base A s.acts ++ pre.flatMap (Cr.cells A)) ++ (x.c, HO.ins A.c_Course x.dx (crsF st')) :: (st', .lst (as'.map V.ref)) :: post.flatMap (Cr.cells A) := by
    simp [Lay.cells, Lay.base, hx, List.flatMap_append, Cr.cells, List.append_assoc, crKv]
  have hat := h.at_
  have st0 : st' ∉ keys (fr ++ L.cells A s.acts) := hat.notin n
  have xm : x.c ∈ keys (fr ++ L.cells A s.acts) := by rw [e0]; simp [keys]
  rw [e0] at hat st0
  generalize hX : fr ++ L.base A s.acts ++ pre.flatMap (Cr.cells A) = X at *
  -- without the old list
  have hat1 : At (X ++ (x.c, HO.ins A.c_Course x.dx (crsF x.st)) :: post.flatMap (Cr.cells A)) H := by
    have p : (X ++ (x.c, HO.ins A.c_Course x.dx (crsF x.st)) :: (x.st, .lst (x.as.map V.ref)) :: post.flatMap (Cr.cells A)).Perm ((x.st, .lst (x.as.map V.ref)) :: (X ++ (x.c, HO.ins A.c_Course x.dx (crsF x.st)) :: post.flatMap (Cr.cells A))) := by
      refine (List.Perm.append_left X (List.Perm.swap _ _ _)).trans ?_
      exact List.perm_middle
    exact (hat.perm p).tl
  have hat2 := hat1.repl ec trivial k
  have hat3 := hat2.ins (p := st') (by
    intro m
    apply st0
    simp only [keys, List.map_append, List.map_cons, List.mem_append, List.mem_cons] at m ⊢
    rcases m with m | m | m
    · exact .inl m
    · exact .inr (.inl m)
    · exact .inr (.inr (.inr m))) es trivial
  have hat4 : At (X ++ (x.c, HO.ins A.c_Course x.dx (crsF st')) :: (st', .lst (as'.map V.ref)) :: post.flatMap (Cr.cells A)) H' := by
    refine hat3.perm (List.Perm.trans ?_ (List.Perm.append_left X (List.Perm.swap _ _ _)))
    exact List.perm_middle.symm
  rw [← e1] at hat4
  have ksub : ∀ b, b ∈ keys (fr ++ ({ L with crs := pre ++ { x with st := st', as := as', ns := cs } :: post } : Lay).cells A s.acts) → b = st' ∨ b ∈ keys (fr ++ L.cells A s.acts) := fun b m => by
    rw [e1] at m
    rw [e0]
    simp only [keys, List.map_append, List.map_cons, List.mem_append, List.mem_cons] at m ⊢
    rcases m with m | m | m | m
    · exact .inr (.inl m)
    · exact .inr (.inr (.inl m))
    · exact .inl m
    · exact .inr (.inr (.inr (.inr m)))
  have v1 : Same (wo H' (st' :: Ms A fr L s.acts)) (VW A fr { L with crs := pre ++ { x with st := st', as := as', ns := cs } :: post } s.acts H') := vw_same fun b u nb eb => by
    refine ⟨?_, eb⟩
    simp only [Ms, List.mem_cons, not_or] at nb ⊢
    refine ⟨nb.2.1, fun m => ?_⟩
    rcases ksub b m with e | e
    · exact nb.1 e
    · exact nb.2.2 e
  have v2 : Same (VW A fr L s.acts H) (wo H' (st' :: Ms A fr L s.acts)) := vw_same fun b u nb eb => by
    have bx : b ≠ x.c := fun e => nb (by rw [e]; simp only [Ms, List.mem_cons]; exact .inr xm)
    refine ⟨?_, k b u (by simpa using bx) eb⟩
    simp only [List.mem_cons, not_or]
    exact ⟨ne_of_none eb n, nb⟩
  have v := Same.tr v2 v1
  refine ⟨h.re hat4 ?_ v rfl (fun y m => ?_) ?_, v, v1⟩
  · exact tab_kp h.tab (fun b m => by simp at m; subst m; exact ⟨_, (h.cr (x := x) (by rw [hx]; simp)).1, trivial⟩) k
  · simp only [List.mem_append, List.mem_cons] at m
    rcases m with m | rfl | m
    · exact .inl (by rw [hx]; simp [m])
    · exact .inr ⟨steps_mono hA v1, hlt, hlen, (h.crs x (by rw [hx]; simp)).law⟩
    · exact .inl (by rw [hx]; simp [m])
  · have := h.nd
    rw [hx] at this
    simpa using this
/-- what a list of commands, told by the object, holds -/
structure ZOk (A : Ad) (I : Hp) (s : Kcs5.Abs) (zs : List ZC) : Prop where
  cmd : ∀ z ∈ zs, CmdR A s.acts I z.1 z.2
  idx : ∀ z ∈ zs, z.2 ∈ idx s
  nov : ∀ z ∈ zs, Kcs5.isVoid z.2.2.what = false
  len : zs.length ≤ 1024
theorem ZOk.mn {I I' : Hp} {s : Kcs5.Abs} {zs : List ZC} (h : ZOk A I s zs) (k : LamX.ExtN I I') : ZOk A I' s zs := ⟨fun z m => (h.cmd z m).mn k, h.idx, h.nov, h.len⟩
theorem ZOk.mono {I I' : Hp} {s : Kcs5.Abs} {zs : List ZC} (h : ZOk A I s zs) (k : Same I I') : ZOk A I' s zs := h.mn (Same.n k)
theorem ZOk.flt {I : Hp} {s : Kcs5.Abs} {zs : List ZC} (h : ZOk A I s zs) (p : ZC → Bool) : ZOk A I s (zs.filter p) :=
  ⟨fun z m => h.cmd z (List.mem_filter.mp m).1, fun z m => h.idx z (List.mem_filter.mp m).1, fun z m => h.nov z (List.mem_filter.mp m).1, Nat.le_trans (List.length_filter_le _ _) h.len⟩
theorem ZOk.cf {M : List Addr} {H : Hp} {s : Kcs5.Abs} {zs : List ZC} (h : ZOk A (wo H M) s zs) : ∀ z ∈ zs, CF A s.acts H z.1 z.2 := fun z m => (h.cmd z m).cf.mono wo_le
theorem ZOk.cn {I : Hp} {s : Kcs5.Abs} {zs : List ZC} (w : Wf s) (h : ZOk A I s zs) : All2 (CmdN A (what s) I) (zs.map Prod.fst) (zs.map (·.2.1)) := by
  obtain ⟨h1, h2, h3, h4⟩ := h
  clear h4
  induction zs with
  | nil => exact .nil
  | cons z r ih =>
    refine .cons ?_ (ih (fun y m => h1 y (by simp [m])) (fun y m => h2 y (by simp [m])) (fun y m => h3 y (by simp [m])))
    obtain ⟨m, c1, c2, c3, c4, c5, c6, c7⟩ := h1 z (by simp)
    have hi := h2 z (by simp)
    refine ⟨m, c1, c2, ?_, what_ok w hi, ?_⟩
    · rw [what_mem hi]; exact c6
    · rw [what_mem hi]; exact h3 z (by simp)
theorem ZOk.lt {I : Hp} {s : Kcs5.Abs} {zs : List ZC} (h : ZOk A I s zs) : ∀ n ∈ zs.map (·.2.1), n < s.commands.length := fun n m => by
  rw [List.mem_map] at m
  obtain ⟨z, hz, rfl⟩ := m
  exact (List.getElem?_eq_some_iff.mp (idx_mem (h.idx z hz))).1
def sp_Laws_commands_of (A : Ad) : Sp := fun vs H Q _ => ∃ (fr : Cells) (L : Lay) (s : Kcs5.Abs) (law known : Nat), vs = [.ref L.lw, .int (law : Nat), .int (known : Nat)] ∧ StA A fr L s H ∧
  ∀ H' p zs, StA A fr L s H' → ZL (VW A fr L s.acts H') p zs → ZOk A (VW A fr L s.acts H') s zs → zs.map Prod.snd = ofLaw s law known → LamX.ExtN (VW A fr L s.acts H) (VW A fr L s.acts H') → Q (.ref p) H'
def sp_Laws_sections_by (A : Ad) : Sp := fun vs H Q _ => ∃ (fr : Cells) (L : Lay) (s : Kcs5.Abs) (law on : Nat) (p : Addr) (zs : List ZC), vs = [.ref L.lw, .int (law : Nat), .ref p, .int (on : Nat)] ∧ StA A fr L s H ∧ law < 64 ∧ ZL (VW A fr L s.acts H) p zs ∧ ZOk A (VW A fr L s.acts H) s zs ∧
  ∀ H' L' q, StA A fr L' s H' → L'.lw = L.lw → Same (VW A fr L s.acts H) (VW A fr L' s.acts H') → SecsAt A (VW A fr L' s.acts H') q (lawOf (what s) [] ((zs.filter (cnt on)).map (·.2.1))) → Q (.ref q) H'
def sp_Laws_sections_of (A : Ad) : Sp := fun vs H Q _ => ∃ (fr : Cells) (L : Lay) (s : Kcs5.Abs) (law on known : Nat), vs = [.ref L.lw, .int (law : Nat), .int (on : Nat), .int (known : Nat)] ∧ StA A fr L s H ∧ law < 64 ∧
  ∀ H' L' q, StA A fr L' s H' → L'.lw = L.lw → LamX.ExtN (VW A fr L s.acts H) (VW A fr L' s.acts H') → SecsAt A (VW A fr L' s.acts H') q (Kcs5.stands s law on known) → Q (.ref q) H'
theorem pure_Laws_sections_by (T : Txt K mg A) (vs : List V) (H : Hp) (Q : VK) (E : XK) (h : sp_Laws_sections_by A vs H Q E) : t_Laws_sections_by K A (sp_Course_take_all A) (sp_Laws_course_of A) (sp_counting_on A) { nx := fun _ H' => Q .non H', rt := Q } (L2.start ["self", "law", "commands", "on"] vs) H := by
  obtain ⟨fr, L, s, law, on, p, zs, rfl, hS, hlaw, hp, hz, q⟩ := h
  have hlw := hS.lw
  simp [t_Laws_sections_by, L2.start, hlw, lawF]
  refine ⟨fr, L, s, law, rfl, hS, hlaw, fun H1 L1 x S1 el hx hxl v1 => ?_⟩
  obtain ⟨cx, cs⟩ := S1.cr hx
  have cx' := cx
  unfold crsF at cx'
  simp [cx']
  have hp1 : ZL (VW A fr L1 s.acts H1) p zs := v1 _ _ hp
  have hz1 := hz.mono v1
  refine ⟨p, s.acts, zs, on, rfl, wo_le _ _ hp1, hz1.cf, by have := hz.len; omega, fun H2 p2 k2 n2 e2 => ?_⟩
  have S2 := S1.same k2
  have z2 := (hz1.flt (cnt on)).mono (vw_up k2 (M := Ms A fr L1 s.acts))
  have hck := (S2.crs x hx)
  obtain ⟨pre, post, hpp⟩ := List.append_of_mem hx
  have xm : x.c ∈ Ms A fr L1 s.acts := by
    simp only [Ms, List.mem_cons]
    right
    simp only [Lay.cells, keys, List.map_append, List.mem_append]
    right; right
    rw [List.mem_map]
    exact ⟨(x.c, .ins A.c_Course x.dx (crsF x.st)), by rw [List.mem_flatMap]; exact ⟨x, hx, by simp [Cr.cells]⟩, rfl⟩
  refine ⟨x.c, x.dx, x.st, p2, x.as, (zs.filter (cnt on)).map Prod.fst, what s, x.ns, (zs.filter (cnt on)).map (·.2.1), Ms A fr L1 s.acts, rfl, S2.ok, xm, k2 _ _ cx, k2 _ _ cs, hck.steps, ?_, ?_, by have := hck.len; omega, by have := z2.len; simp; omega, fun H3 st' as' p3 k3 n3 e3 es3 hA3 hs3 => ?_⟩
  · rw [List.map_map]; exact e2
  · exact z2.cn S2.wf
  · obtain ⟨S3, v3, v3'⟩ := S2.took hpp k3 n3 e3 es3 hA3 z2.lt (by have := z2.len; simpa using this)
    exact q H3 _ p3 S3 el (Same.tr v1 (Same.tr (vw_up k2) v3)) (hs3.mono v3')
theorem lc_pre {σ : L2.St} {H : Hp} {Q : VK} {tl : TE} {g : TG} {tt : TT} {te : TE} {vs : List Nat} {S : Addr → Hp → Prop} (he : ∀ R : VK, (∀ a H1, S a H1 → R (.ref a) H1) → tl σ H R) (k : ∀ a H1, S a H1 → tLc (iList K (tC (.ref a))) g tt te vs σ H1 Q) : tLc (iList K tl) g tt te vs σ H Q :=
  he _ fun a H1 hS => k a H1 hS
theorem vld_flt {zs : List ZC} {s : Kcs5.Abs} {k : Nat} (h : zs.map Prod.snd = idx s) : (vld (zs.filter (kn k))).map Prod.snd = validOn s k := by
  have e1 : (zs.filter (kn k)).map Prod.snd = Kcs5.knownOn s k := by
    rw [knownOn_idx, ← h, List.filter_map]
    rfl
  unfold vld validOn
  rw [← e1, List.filter_map]
  rfl
theorem pure_Laws_commands_of (T : Txt K mg A) (vs : List V) (H : Hp) (Q : VK) (E : XK) (h : sp_Laws_commands_of A vs H Q E) : t_Laws_commands_of K A (sp_Record_valid_on A) (sp_in_order K A) { nx := fun _ H' => Q .non H', rt := Q } (L2.start ["self", "law", "known", "command"] vs) H := by
  obtain ⟨fr, L, s, law, known, rfl, hS, q⟩ := h
  have hlw := hS.lw
  have hr := hS.r
  have hr' := hr
  unfold recF at hr'
  unfold lawF at hlw
  rw [t_Laws_commands_of, u_tRet, u_tCall, u_tCons]
  have hcf : ∀ z ∈ zsOf L s, CF A s.acts H z.1 z.2 := fun z hz => (hS.zcf z hz).1.cf.mono wo_le
  have hzl := hS.zlen
  have hidx : (zsOf L s).map Prod.snd = idx s := zip_snd hS.cmd
  have hvl := vld_flt (k := known) hidx
  have vsub : ∀ z ∈ vld ((zsOf L s).filter (kn known)), z ∈ zsOf L s := fun z hz => by
    unfold vld at hz
    exact (List.mem_filter.mp (List.mem_filter.mp hz).1).1
  have vlen : (vld ((zsOf L s).filter (kn known))).length ≤ 1024 := by
    unfold vld
    exact Nat.le_trans (List.length_filter_le _ _) (Nat.le_trans (List.length_filter_le _ _) hzl)
  have hvok : ZOk A (VW A fr L s.acts H) s (vld ((zsOf L s).filter (kn known))) := by
    refine ⟨fun z hz => (hS.zcf z (vsub z hz)).1, fun z hz => (hS.zcf z (vsub z hz)).2, fun z hz => ?_, vlen⟩
    unfold vld at hz
    have := (List.mem_filter.mp hz).2
    simp at this
    exact this.1
  generalize hzv : vld ((zsOf L s).filter (kn known)) = zv at *
  refine lc_pre (S := fun a H1 => Same H H1 ∧ ZL H1 a zv) ?_ ?_
  · intro R hR
    simp [L2.start, hlw, hr', T.cl_Laws, T.no_Laws_record]
    refine ⟨L.r, L.dr, L.dl, L.cl, s.acts, zsOf L s, known, rfl, hr, hS.dl, hS.zl, hcf, by omega, fun H1 p1 k1 n1 e1 => hR p1 H1 ⟨k1, ?_⟩⟩
    rw [hzv] at e1; exact e1
  rintro p1 H1 ⟨k1, e1⟩
  have S1 := hS.same k1
  have z1 : ZOk A (VW A fr L s.acts H1) s zv := hvok.mono (vw_up k1)
  refine lc_zip (a := p1) zv (fun z => .ref z.1) (fun z => decide (z.2.2.law = law)) (fun z => .ref z.1) rfl (fun R r => by simpa using r) (SqL.of e1) (by simp; rw [sz]; omega) ?_ ?_ ?_
  · intro z hz H' R k r
    obtain ⟨dx2, kd, ac, fo, tg, v1, v2, v3, v4, v5, h0, _⟩ := (z1.cf z hz).ex
    simp [L2.start, k _ _ h0, T.cl_Command, T.no_Command_law]
    have e : decide ((z.2.2.law : Int) = (law : Int)) = decide (z.2.2.law = law) := by rw [decide_eq_decide]; omega
    rw [e]; exact r
  · intro z hz _ H' R k r
    simpa [L2.start] using r
  refine alloc_new fun p2 H2 n2 e2 k2 => ?_
  have S2 := S1.same k2
  have z2 : ZOk A (VW A fr L s.acts H2) s (zv.filter fun z => decide (z.2.2.law = law)) := (z1.flt _).mono (vw_up k2)
  simp
  refine ⟨p2, s.acts, zv.filter fun z => decide (z.2.2.law = law), rfl, e2, z2.cf, S2.tab, fun H3 H4 p4 k3 tab3 n4 k4 t4 e4 => ?_⟩
  obtain ⟨S3, v3⟩ := S2.ext k3 tab3
  have S4 := S3.same k4
  have z4 := (z2.mn v3).mono (vw_up k4)
  have hin : ∀ z, z ∈ (zv.filter fun z => decide (z.2.2.law = law)).mergeSort zord ↔ z ∈ zv.filter fun z => decide (z.2.2.law = law) := fun z => List.mem_mergeSort
  refine q H4 p4 _ S4 (wo_new S3.ok n4 e4) ⟨fun z m => z4.cmd z ((hin z).mp m), fun z m => z4.idx z ((hin z).mp m), fun z m => z4.nov z ((hin z).mp m), by rw [List.length_mergeSort]; exact z4.len⟩ ?_ ?_
  · unfold ofLaw
    rw [← hvl, List.map_mergeSort (s := ord) (f := Prod.snd) (by intro a _ b _; rfl), List.filter_map]
    rfl
  · intro b o e nn
    exact vw_up k4 _ _ (v3 _ _ (vw_up (Same.tr k1 k2) _ _ e) nn)
theorem pure_Laws_sections_of (T : Txt K mg A) (vs : List V) (H : Hp) (Q : VK) (E : XK) (h : sp_Laws_sections_of A vs H Q E) : t_Laws_sections_of K A (sp_Laws_commands_of A) (sp_Laws_sections_by A) { nx := fun _ H' => Q .non H', rt := Q } (L2.start ["self", "law", "on", "known"] vs) H := by
  obtain ⟨fr, L, s, law, on, known, rfl, hS, hlaw, q⟩ := h
  have hlw := hS.lw
  unfold lawF at hlw
  simp [t_Laws_sections_of, L2.start, hlw]
  refine ⟨fr, L, s, law, known, rfl, hS, fun H1 p zs S1 hz1 ok1 em v1 => ?_⟩
  refine ⟨fr, L, s, law, on, p, zs, rfl, S1, hlaw, hz1, ok1, fun H2 L2 q2 S2 el v2 hs2 => ?_⟩
  refine q H2 L2 q2 S2 el (fun b o e nn => v2 _ _ (v1 _ _ e nn)) ?_
  rw [stands_law]
  have e : (zs.filter (cnt on)).map (·.2.1) = lawNs s law on known := by
    unfold lawNs
    rw [← em, List.filter_map, List.map_map]
    rfl
  rw [← e]; exact hs2
end
end LD

namespace LD
open PySem PySem.Spec PyProof.Rows L2
/-! ### question.py -/
def sp_is_askable : Sp := fun vs H Q _ => ∃ law on known : Nat, vs = [.int (law : Nat), .int (on : Nat), .int (known : Nat)] ∧ Q (.bl (Kcs5.fair law on known)) H
/-- the answer stands in a new list -/
def Ans (A : Ad) (fr : Cells) (L : Lay) (s : Kcs5.Abs) (Q : VK) (a : List Int) : Prop := ∀ H' L' q, StA A ((q, .lst (a.map V.int)) :: fr) L' s H' → L'.lw = L.lw → Q (.ref q) H'
def ansOf (s : Kcs5.Abs) (c : Kcs5.Call) : List Int := Kcs5Neutral.told (Kcs5.step s c).2
def sp_tell_read (A : Ad) : Sp := fun vs H Q _ => ∃ (fr : Cells) (L : Lay) (s : Kcs5.Abs) (law on known : Nat) (la : Addr) (l : List Nat), vs = [.ref L.lw, .int (law : Nat), .ref la, .int (on : Nat), .int (known : Nat)] ∧ StA A fr L s H ∧ IL (VW A fr L s.acts H) la (nums l) ∧ Ans A fr L s Q (ansOf s (.read law l on known))
def sp_tell_origin (A : Ad) : Sp := fun vs H Q _ => ∃ (fr : Cells) (L : Lay) (s : Kcs5.Abs) (law on known : Nat) (la : Addr) (l : List Nat), vs = [.ref L.lw, .int (law : Nat), .ref la, .int (on : Nat), .int (known : Nat)] ∧ StA A fr L s H ∧ IL (VW A fr L s.acts H) la (nums l) ∧ Ans A fr L s Q (ansOf s (.origin law l on known))
def sp_tell_next (A : Ad) : Sp := fun vs H Q _ => ∃ (fr : Cells) (L : Lay) (s : Kcs5.Abs) (law on known : Nat) (la : Addr) (l : List Nat), vs = [.ref L.lw, .int (law : Nat), .ref la, .int (on : Nat), .int (known : Nat)] ∧ StA A fr L s H ∧ IL (VW A fr L s.acts H) la (nums l) ∧ Ans A fr L s Q (ansOf s (.next law l on known))
def sp_tell_labels (A : Ad) : Sp := fun vs H Q _ => ∃ (fr : Cells) (L : Lay) (s : Kcs5.Abs) (law on known : Nat), vs = [.ref L.lw, .int (law : Nat), .int (on : Nat), .int (known : Nat)] ∧ StA A fr L s H ∧ Ans A fr L s Q (ansOf s (.labels law on known))
def sp_tell_broken (A : Ad) : Sp := fun vs H Q _ => ∃ (fr : Cells) (L : Lay) (s : Kcs5.Abs) (law on known k : Nat), vs = [.ref L.lw, .int (law : Nat), .int (on : Nat), .int (known : Nat), .int (k : Nat)] ∧ StA A fr L s H ∧ Ans A fr L s Q (ansOf s (.broken law on known k))
section
variable {K : PySem.W.Frag} {mg : Str → Option Value} {A : Ad}
theorem pure_is_askable (T : Txt K mg A) (vs : List V) (H : Hp) (Q : VK) (E : XK) (h : sp_is_askable vs H Q E) : t_is_askable K A sp_is_day sp_is_law { nx := fun _ H' => Q .non H', rt := Q } (L2.start ["law", "on", "known"] vs) H := by
  obtain ⟨law, on, known, rfl, q⟩ := h
  unfold Kcs5.fair Kcs5.LAWS Kcs5.DAYS at q
  simp [t_is_askable, L2.start, sp_is_law, sp_is_day]
  by_cases h1 : law < 64
  · rw [if_pos (by omega)]
    by_cases h2 : on ≤ 1048576
    · rw [if_pos (by omega)]
      have e : decide ((known : Int) ≤ 1048576) = decide (known ≤ 1048576) := by rw [decide_eq_decide]; omega
      rw [e]
      simpa [h1, h2] using q
    · rw [if_neg (by omega)]
      simpa [h1, h2] using q
  · rw [if_neg (by omega)]
    simpa [h1] using q
/-- a new list is the answer -/
theorem ans_new {fr : Cells} {L L' : Lay} {s : Kcs5.Abs} {Q : VK} {a : List Int} {H : Hp} (q : Ans A fr L s Q a) (h : StA A fr L' s H) (el : L'.lw = L.lw) : alloc H (.lst (a.map V.int)) fun p H2 => Q (.ref p) H2 :=
  alloc_new fun p H2 n e k => q H2 L' p (h.add n k e trivial).1 el
theorem ans_new' {fr : Cells} {L L' : Lay} {s : Kcs5.Abs} {Q : VK} {a : List Int} {xs : List V} {H : Hp} (q : Ans A fr L s Q a) (h : StA A fr L' s H) (el : L'.lw = L.lw) (e : xs = a.map V.int) : alloc H (.lst xs) fun p H2 => Q (.ref p) H2 := by
  have z := ans_new q h el
  rw [← e] at z
  exact z
theorem tell_open {D : Ends} {σ : L2.St} {H : Hp} {rest : TS} {law on known : Nat} {la : Addr} {l : List Nat} (s1 : σ[1]? = some (some (.int (law : Nat)))) (s2 : σ[2]? = some (some (.ref la))) (s3 : σ[3]? = some (some (.int (on : Nat)))) (s4 : σ[4]? = some (some (.int (known : Nat))))
    (hl : IL H la (nums l)) (hbad : Kcs5.fair law on known = false ∨ Kcs5.isLabel l = false → alloc H (.lst [.int (-1)]) fun p H2 => D.rt (.ref p) H2) (hok : Kcs5.fair law on known = true → Kcs5.isLabel l = true → rest D σ H) :
    tSeq (tIfS (tOr (tNot (tB (tCall sp_is_askable [] E0 (tCons (tVar 1) (tCons (tVar 3) (tCons (tVar 4) tNil)))))) (tNot (tB (tCall (sp_is_label K) [] E0 (tCons (tVar 2) tNil))))) (tRet (tLst (tCons (tC (.int (-1))) tNil))) tNext) rest D σ H := by
  have sl1 : ∀ R : V → Prop, slot σ 1 R ↔ R (.int (law : Nat)) := fun R => by simp [slot, s1]
  have sl2 : ∀ R : V → Prop, slot σ 2 R ↔ R (.ref la) := fun R => by simp [slot, s2]
  have sl3 : ∀ R : V → Prop, slot σ 3 R ↔ R (.int (on : Nat)) := fun R => by simp [slot, s3]
  have sl4 : ∀ R : V → Prop, slot σ 4 R ↔ R (.int (known : Nat)) := fun R => by simp [slot, s4]
  rw [u_tSeq]
  simp [sl1, sl2, sl3, sl4]
  refine ⟨law, on, known, rfl, ?_⟩
  simp only [asB_bl]
  cases h1 : Kcs5.fair law on known with
  | false =>
    simp
    exact ⟨(by show 1 ≤ sizeLine; decide), hbad (.inl h1)⟩
  | true =>
    simp
    refine ⟨la, nums l, rfl, SqL.of hl, ?_⟩
    simp only [asB_bl, mLabel_eq]
    cases h2 : Kcs5.isLabel l with
    | false =>
      simp
      exact ⟨(by show 1 ≤ sizeLine; decide), hbad (.inr h2)⟩
    | true =>
      simp
      exact hok h1 h2
theorem fair_law {law on known : Nat} (h : Kcs5.fair law on known = true) : law < 64 := by
  unfold Kcs5.fair at h
  simp [Kcs5.LAWS] at h
  exact of_decide_eq_true h.1.1
theorem pure_tell_read (T : Txt K mg A) (vs : List V) (H : Hp) (Q : VK) (E : XK) (h : sp_tell_read A vs H Q E) : t_tell_read K A (sp_Laws_sections_of A) (sp_find_section A) sp_is_askable (sp_is_label K) { nx := fun _ H' => Q .non H', rt := Q } (L2.start ["laws", "law", "label", "on", "known", "section"] vs) H := by
  obtain ⟨fr, L, s, law, on, known, la, l, rfl, hS, hl, q⟩ := h
  rw [t_tell_read]
  refine tell_open rfl rfl rfl rfl (wo_le _ _ hl) (fun hb => ?_) fun h1 h2 => ?_
  · refine ans_new' q hS rfl ?_
    simp only [ansOf, Kcs5.step]
    rw [if_pos hb]
    rfl
  have hno : ¬ (Kcs5.fair law on known = false ∨ Kcs5.isLabel l = false) := by
    rintro (z | z)
    · rw [h1] at z; cases z
    · rw [h2] at z; cases z
  have hlw := hS.lw
  unfold lawF at hlw
  rw [u_tSeq]
  simp [L2.start, hlw]
  refine ⟨fr, L, s, law, on, known, rfl, hS, fair_law h1, fun H1 L1 q1 S1 el v1 hs1 => ?_⟩
  have hl1 : IL (VW A fr L1 s.acts H1) la (nums l) := il_n v1 hl
  have hL := stands_ok hS.wf law on known
  refine ⟨q1, la, _, l, Ms A fr L1 s.acts, rfl, hs1, wo_le _ _ hl1, fun H2 a k x k2 ex exl hx => ?_, fun H2 k2 hn => ?_⟩
  · (try dsimp only)
    have S2 := S1.same k2
    rw [u_tSeq]
    obtain ⟨dx, l1, t1, o1, g0, g1, g2, g3⟩ := hx.ex
    simp [wo_le _ _ g0, T.cl_Section, T.no_Section_text]
    refine ⟨(by show 1 ≤ sizeLine; decide), alloc_new fun p3 H3 n3 e3 k3 => ?_⟩
    simp [k3 _ _ (wo_le _ _ g0), T.cl_Section, T.no_Section_text]
    have g2' := k3 _ _ (wo_le _ _ g2)
    simp [e3, g2']
    have tl := (hL.sec x (List.mem_of_getElem? ex)).len
    refine ⟨by rw [sz]; omega, ?_⟩
    refine ans_new' q (S2.same k3) el ?_
    simp only [ansOf, Kcs5.step]
    rw [if_neg hno]
    unfold Kcs5.textOn
    rw [sectionOf_at hL.nd ex exl]
    simp [Kcs5Neutral.told, Kcs5.bytesOf]
  · (try dsimp only)
    have S2 := S1.same k2
    rw [u_tSeq]
    simp
    refine ⟨(by show 1 ≤ sizeLine; decide), ?_⟩
    refine ans_new' q S2 el ?_
    simp only [ansOf, Kcs5.step]
    rw [if_neg hno]
    unfold Kcs5.textOn
    rw [sectionOf_none hn]
    rfl
theorem pure_tell_origin (T : Txt K mg A) (vs : List V) (H : Hp) (Q : VK) (E : XK) (h : sp_tell_origin A vs H Q E) : t_tell_origin K A (sp_Laws_sections_of A) (sp_find_section A) sp_is_askable (sp_is_label K) sp_rows_of { nx := fun _ H' => Q .non H', rt := Q } (L2.start ["laws", "law", "label", "on", "known", "section"] vs) H := by
  obtain ⟨fr, L, s, law, on, known, la, l, rfl, hS, hl, q⟩ := h
  rw [t_tell_origin]
  refine tell_open rfl rfl rfl rfl (wo_le _ _ hl) (fun hb => ?_) fun h1 h2 => ?_
  · refine ans_new' q hS rfl ?_
    simp only [ansOf, Kcs5.step]
    rw [if_pos hb]
    rfl
  have hno : ¬ (Kcs5.fair law on known = false ∨ Kcs5.isLabel l = false) := by
    rintro (z | z)
    · rw [h1] at z; cases z
    · rw [h2] at z; cases z
  have hlw := hS.lw
  unfold lawF at hlw
  rw [u_tSeq]
  simp [L2.start, hlw]
  refine ⟨fr, L, s, law, on, known, rfl, hS, fair_law h1, fun H1 L1 q1 S1 el v1 hs1 => ?_⟩
  have hl1 : IL (VW A fr L1 s.acts H1) la (nums l) := il_n v1 hl
  have hL := stands_ok hS.wf law on known
  refine ⟨q1, la, _, l, Ms A fr L1 s.acts, rfl, hs1, wo_le _ _ hl1, fun H2 a k x k2 ex exl hx => ?_, fun H2 k2 hn => ?_⟩
  · (try dsimp only)
    have S2 := S1.same k2
    rw [u_tSeq]
    obtain ⟨dx, l1, t1, o1, g0, g1, g2, g3⟩ := hx.ex
    simp
    refine ⟨(by show 1 ≤ sizeLine; decide), alloc_new fun p3 H3 n3 e3 k3 => ?_⟩
    simp [k3 _ _ (wo_le _ _ g0), T.cl_Section, T.no_Section_owners]
    have tl := (hL.sec x (List.mem_of_getElem? ex)).len
    refine ⟨o1, x.text.map Prod.snd, rfl, k3 _ _ (wo_le _ _ g3), by simp; omega, fun H4 p4 k4 n4 e4 => ?_⟩
    have e4' : H4 p4 = some (.lst ((flat2 (mRows 0 (x.text.map Prod.snd))).map V.int)) := e4
    simp [k4 _ _ e3, e4']
    have fl := flat2_len (mRows 0 (x.text.map Prod.snd))
    have ml : ∀ (o : List Nat) (s : Nat), (mRows s o).length ≤ o.length := by
      intro o
      induction o with
      | nil => intro s; simp [mRows]
      | cons a r ih =>
        intro s
        unfold mRows
        split
        · have := ih (s + 1); simp; omega
        · have := ih 0; simp; omega
    have ml1 := ml (x.text.map Prod.snd) 0
    simp at ml1
    refine ⟨by rw [sz]; omega, ?_⟩
    refine ans_new' q ((S2.same k3).same k4) el ?_
    simp only [ansOf, Kcs5.step]
    rw [if_neg hno, sectionOf_at hL.nd ex exl]
    simp [Kcs5Neutral.told, rows_stretches, flat2]
  · (try dsimp only)
    have S2 := S1.same k2
    rw [u_tSeq]
    simp
    refine ⟨(by show 1 ≤ sizeLine; decide), ?_⟩
    refine ans_new' q S2 el ?_
    simp only [ansOf, Kcs5.step]
    rw [if_neg hno, sectionOf_none hn]
    rfl
end
end LD

namespace LD
open PySem PySem.Spec PyProof.Rows L2
section
variable {K : PySem.W.Frag} {mg : Str → Option Value} {A : Ad}
theorem tell_open1 {D : Ends} {σ : L2.St} {H : Hp} {rest : TS} {law on known : Nat} (s1 : σ[1]? = some (some (.int (law : Nat)))) (s2 : σ[2]? = some (some (.int (on : Nat)))) (s3 : σ[3]? = some (some (.int (known : Nat))))
    (hbad : Kcs5.fair law on known = false → alloc H (.lst [.int (-1)]) fun p H2 => D.rt (.ref p) H2) (hok : Kcs5.fair law on known = true → rest D σ H) :
    tSeq (tIfS (tNot (tB (tCall sp_is_askable [] E0 (tCons (tVar 1) (tCons (tVar 2) (tCons (tVar 3) tNil)))))) (tRet (tLst (tCons (tC (.int (-1))) tNil))) tNext) rest D σ H := by
  have sl1 : ∀ R : V → Prop, slot σ 1 R ↔ R (.int (law : Nat)) := fun R => by simp [slot, s1]
  have sl2 : ∀ R : V → Prop, slot σ 2 R ↔ R (.int (on : Nat)) := fun R => by simp [slot, s2]
  have sl3 : ∀ R : V → Prop, slot σ 3 R ↔ R (.int (known : Nat)) := fun R => by simp [slot, s3]
  rw [u_tSeq]
  simp [sl1, sl2, sl3]
  refine ⟨law, on, known, rfl, ?_⟩
  simp only [asB_bl]
  cases h1 : Kcs5.fair law on known with
  | false =>
    simp
    exact ⟨(by show 1 ≤ sizeLine; decide), hbad h1⟩
  | true =>
    simp
    exact hok h1
theorem whole_len (l : List Nat) : (Kcs5Neutral.whole l).length = l.length + 1 := by simp [Kcs5Neutral.whole]
theorem pure_tell_labels (T : Txt K mg A) (vs : List V) (H : Hp) (Q : VK) (E : XK) (h : sp_tell_labels A vs H Q E) : t_tell_labels K A (sp_Laws_sections_of A) sp_is_askable sp_with_size { nx := fun _ H' => Q .non H', rt := Q } (L2.start ["laws", "law", "on", "known", "sections", "told", "section"] vs) H := by
  obtain ⟨fr, L, s, law, on, known, rfl, hS, q⟩ := h
  rw [t_tell_labels]
  refine tell_open1 rfl rfl rfl (fun hb => ?_) fun h1 => ?_
  · refine ans_new' q hS rfl ?_
    simp only [ansOf, Kcs5.step]
    rw [if_pos hb]
    rfl
  have hlw := hS.lw
  unfold lawF at hlw
  rw [u_tSeq]
  simp [L2.start, hlw]
  refine ⟨fr, L, s, law, on, known, rfl, hS, fair_law h1, fun H1 L1 q1 S1 el v1 hs1 => ?_⟩
  have hL := stands_ok hS.wf law on known
  have hans : ansOf s (.labels law on known) = 0 :: ((Kcs5.stands s law on known).length : Int) :: ((Kcs5.stands s law on known).map Kcs5.Section_.label).flatMap Kcs5Neutral.whole := by
    simp only [ansOf, Kcs5.step]
    rw [if_neg (by rw [h1]; simp)]
    simp [Kcs5Neutral.told]
  rw [hans] at q
  generalize Kcs5.stands s law on known = ss at *
  obtain ⟨as, hs, hA⟩ := hs1
  have hs' := wo_le _ _ hs
  have alen := hA.len
  have h64 := hL.len
  (try dsimp only)
  rw [u_tSeq]
  simp
  refine len_of hs' ?_
  refine ⟨(by show 2 ≤ sizeLine; decide), alloc_new fun pt H2 n2 e2 k2 => ?_⟩
  rw [u_tSeq]
  rw [List.length_map, alen] at e2
  obtain ⟨Pv, hP⟩ := hid (fun (i : Nat) (σ : L2.St) (H' : Hp) => ∃ (v : Option V), σ = [some (.ref L.lw), some (.int (law : Nat)), some (.int (on : Nat)), some (.int (known : Nat)), some (.ref q1), some (.ref pt), v] ∧ Kp [pt] H2 H' ∧ IL H' pt (0 :: (ss.length : Int) :: ((ss.take i).map Kcs5.Section_.label).flatMap Kcs5Neutral.whole))
  have kc : ∀ {H' : Hp}, Kp [pt] H2 H' → Same H1 H' := @fun H' k b u e => k _ _ (by simp; exact ne_of_none e n2) (k2 _ _ e)
  have bnd : ∀ i, (((ss.take i).map Kcs5.Section_.label).flatMap Kcs5Neutral.whole).length ≤ 17 * 64 := fun i => by
    have : ∀ (m : List Kcs5.Section_), (∀ x ∈ m, x ∈ ss) → ((m.map Kcs5.Section_.label).flatMap Kcs5Neutral.whole).length ≤ 17 * m.length := by
      intro m
      induction m with
      | nil => intro _; simp
      | cons x r ih =>
        intro hm
        have h1 := ih fun y hy => hm y (by simp [hy])
        have h2 := isLabel_len (hL.sec x (hm x (by simp))).lab
        simp only [List.map_cons, List.flatMap_cons, List.length_append, whole_len, List.length_cons]
        omega
    have h3 := this (ss.take i) fun x hx => List.mem_of_mem_take hx
    have h4 : (ss.take i).length ≤ 64 := by rw [List.length_take]; omega
    omega
  refine for_seq (a := q1) (xs := as.map V.ref) Pv (fun R r => by simpa using r) (by rw [hP]; exact ⟨none, rfl, Kp.refl, by unfold IL; rw [e2]; simp⟩) ?_ ?_ ?_
  · intro i σ H' hp
    rw [hP] at hp
    obtain ⟨v, rfl, k, _⟩ := hp
    exact SqL.of (kc k _ _ hs')
  · intro i x σ H' hx hp
    rw [hP] at hp
    obtain ⟨v, rfl, k, e⟩ := hp
    rw [List.getElem?_map] at hx
    cases ea : as[i]? with
    | none => rw [ea] at hx; cases hx
    | some a =>
      rw [ea] at hx; cases hx
      obtain ⟨y, ey, hY⟩ := hA.get ea
      obtain ⟨dx, l1, t1, o1, g0, g1, g2, g3⟩ := hY.ex
      have g0' := kc k _ _ (wo_le _ _ g0)
      have e' : H' pt = some (.lst ((0 :: (ss.length : Int) :: ((ss.take i).map Kcs5.Section_.label).flatMap Kcs5Neutral.whole).map V.int)) := e
      simp [-upd_at, g0', T.cl_Section, T.no_Section_label]
      refine ⟨.inl ⟨rfl, _, SqL.of e⟩, ?_⟩
      have ll := isLabel_len (hL.sec y (List.mem_of_getElem? ey)).lab
      refine ⟨l1, y.label, rfl, kc k _ _ (wo_le _ _ g1), by omega, fun H3 p3 k3 n3 e3 => ?_⟩
      have e3' : H3 p3 = some (.lst ((Kcs5Neutral.whole y.label).map V.int)) := e3
      have hb := bnd i
      simp [-upd_at, k3 _ _ e', e3']
      refine ⟨by rw [sz]; simp [whole_len] at hb ⊢; omega, ?_⟩
      rw [hP]
      refine ⟨_, rfl, (k.trans (Same.kp k3)).trans (Kp.wr (by simp)), ?_⟩
      unfold IL
      rw [upd_same, List.take_add_one, ey]
      simp
  · intro σ H' hp
    rw [hP] at hp
    obtain ⟨v, rfl, k, e⟩ := hp
    rw [List.length_map, alen, List.take_length] at e
    simp
    exact q H' L1 pt (S1.add n2 (kc k) e trivial).1 el
/-! ### broken -/
theorem refs_lab : ∀ (t : Kcs5.Brought) (r : Kcs5.Bytes), r ∈ Kcs5.refs t → Kcs5.isLabel r = true
  | [], r, h => by simp [Kcs5.refs] at h
  | x :: t, r, h => by
    unfold Kcs5.refs at h
    split at h
    · split at h
      · rename_i l e
        simp at h
        rcases h with rfl | h
        · unfold Kcs5.refAt at e
          simp only at e
          split at e
          · rename_i hc; have := Option.some.inj e; rw [← this]; exact hc.1
          · cases e
        · exact refs_lab t r h
      · exact refs_lab t r h
    · exact refs_lab t r h
def brk (l m : Kcs5.Law) : List (Kcs5.Bytes × Kcs5.Bytes) := m.flatMap fun x => ((Kcs5.refs x.text).filter fun r => !Kcs5.has l r).map fun r => (x.label, r)
theorem broken_brk (l : Kcs5.Law) : Kcs5.broken l = brk l l := rfl
theorem dp_nums {H : Hp} {a : Addr} {l : List Nat} (h : IL H a (nums l)) : Dp K H (.ref a) (.list ((nums l).map PyData.int)) := .lst (SqL.of h) (dp_ints _)
theorem dp_lists {H : Hp} : ∀ {as : List Addr} {ls : List (List Nat)}, All2 (fun a l => IL H a (nums l)) as ls → DpAll K H (as.map V.ref) (ls.map fun l => .list ((nums l).map PyData.int))
  | _, _, .nil => .nil
  | _, _, .cons h t => .cons (dp_nums h) (dp_lists t)
theorem canLay_lists : ∀ ls : List (List Nat), PyData.canLayAll0 (ls.map fun l => PyData.list ((nums l).map PyData.int)) = true
  | [] => by simp [PyData.canLayAll0]
  | l :: ls => by simp only [List.map_cons, PyData.canLayAll0, PyData.canLay0, canLay_ints, canLay_lists ls, Bool.and_self]
theorem depth_lists : ∀ ls : List (List Nat), PyData.depthAll (ls.map fun l => PyData.list ((nums l).map PyData.int)) ≤ 1
  | [] => by simp [PyData.depthAll]
  | l :: ls => by
    have := depth_lists ls
    simp only [List.map_cons, PyData.depthAll, PyData.depth, PySem.W.depth_ints]
    omega
theorem shaped_lists (ls : List (List Nat)) : SeqAt.shaped (.list (ls.map fun l => .list ((nums l).map PyData.int))) = true := by
  have h := depth_lists ls
  unfold SeqAt.shaped
  rw [PyData.canLay0, canLay_lists, PyData.depth]
  simp
  omega
theorem notin_lists {H : Hp} {Q : VK} {a b : Addr} {as : List Addr} {l : List Nat} {ls : List (List Nat)} (h1 : IL H a (nums l)) (h2 : H b = some (.lst (as.map V.ref))) (h3 : All2 (fun a l => IL H a (nums l)) as ls) (q : Q (.bl (!ls.any fun x => x == l)) H) : rNotInD K (.ref a) (.ref b) H Q := by
  refine ⟨_, _, dp_nums h1, .lst (SqL.of h2) (dp_lists h3), shaped_ints _, shaped_lists _, ?_⟩
  have e : (ls.map fun l => PyData.list ((nums l).map PyData.int)).any (fun z => PyData.eqv z (.list ((nums l).map PyData.int))) = ls.any fun x => x == l := by
    rw [List.any_map]
    apply congrArg (fun f => ls.any f)
    funext x
    simp only [Function.comp, PyData.eqv, eqv_ints]
    rw [Bool.eq_iff_iff]
    simp [nums_inj]
  rw [e]; exact q
theorem pure_tell_broken (T : Txt K mg A) (vs : List V) (H : Hp) (Q : VK) (E : XK) (h : sp_tell_broken A vs H Q E) : t_tell_broken K A (sp_Laws_sections_of A) sp_is_askable sp_references_in sp_with_size { nx := fun _ H' => Q .non H', rt := Q } (L2.start ["laws", "law", "on", "known", "k", "sections", "there", "passed", "section", "label"] vs) H := by
  obtain ⟨fr, L, s, law, on, known, kk, rfl, hS, q⟩ := h
  rw [t_tell_broken]
  refine tell_open1 rfl rfl rfl (fun hb => ?_) fun h1 => ?_
  · refine ans_new' q hS rfl ?_
    simp only [ansOf, Kcs5.step]
    rw [if_pos hb]
    rfl
  have hlw := hS.lw
  unfold lawF at hlw
  rw [u_tSeq]
  simp [L2.start, hlw]
  refine ⟨fr, L, s, law, on, known, rfl, hS, fair_law h1, fun H1 L1 q1 S1 el v1 hs1 => ?_⟩
  have hL := stands_ok hS.wf law on known
  have hans : ansOf s (.broken law on known kk) = match (Kcs5.broken (Kcs5.stands s law on known))[kk]? with
      | none => [0]
      | some x => 1 :: Kcs5Neutral.whole x.1 ++ Kcs5Neutral.whole x.2 := by
    simp only [ansOf, Kcs5.step]
    rw [if_neg (by rw [h1]; simp)]
    cases (Kcs5.broken (Kcs5.stands s law on known))[kk]? <;> rfl
  rw [hans, broken_brk] at q
  generalize Kcs5.stands s law on known = ss at *
  obtain ⟨as, hs, hA⟩ := hs1
  have hs' := wo_le _ _ hs
  have alen := hA.len
  have h64 := hL.len
  (try dsimp only)
  rw [u_tSeq, u_tAsg]
  -- there: the labels' own lists
  obtain ⟨las, hlas⟩ : ∃ las : List Addr, All2 (fun (a : Addr) (z : Addr × Kcs5.Section_) => ∃ dx t o, H1 z.1 = some (.ins A.c_Section dx [("label", .ref a), ("text", .ref t), ("owners", .ref o)]) ∧ IL H1 a (nums z.2.label) ∧ IL H1 t (nums (z.2.text.map Prod.fst))) las (as.zip ss) := by
    have : ∀ {as : List Addr} {m : List Kcs5.Section_}, All2 (SecAt A (VW A fr L1 s.acts H1)) as m → ∃ las : List Addr, All2 (fun (a : Addr) (z : Addr × Kcs5.Section_) => ∃ dx t o, H1 z.1 = some (.ins A.c_Section dx [("label", .ref a), ("text", .ref t), ("owners", .ref o)]) ∧ IL H1 a (nums z.2.label) ∧ IL H1 t (nums (z.2.text.map Prod.fst))) las (as.zip m) := by
      intro as m hh
      induction hh with
      | nil => exact ⟨[], .nil⟩
      | cons h _ ih =>
        obtain ⟨las, hl⟩ := ih
        obtain ⟨dx, l1, t1, o1, g0, g1, g2, g3⟩ := h.ex
        exact ⟨l1 :: las, .cons ⟨dx, t1, o1, wo_le _ _ g0, wo_le _ _ g1, wo_le _ _ g2⟩ hl⟩
    exact this hA
  have llen := hlas.len
  refine lc_zip (a := q1) (las.zip (as.zip ss)) (fun z => .ref z.2.1) (fun _ => true) (fun z => .ref z.1) ?_ (fun R r => by simpa using r) (SqL.of hs') (by simp; rw [sz]; omega) (fun z _ H' R _ r => r) ?_ ?_
  · have e1 : (las.zip (as.zip ss)).map (fun z => V.ref z.2.1) = ((las.zip (as.zip ss)).map Prod.snd).map fun z => V.ref z.1 := by rw [List.map_map]; rfl
    rw [e1, zip_snd hlas, show (fun z : Addr × Kcs5.Section_ => V.ref z.1) = V.ref ∘ Prod.fst from rfl, ← List.map_map, zip_fst hA]
  · intro z hz _ H' R k r
    obtain ⟨dx, t, o, g0, g1, g2⟩ := zip_mem hlas z hz
    simpa [k _ _ g0, T.cl_Section, T.no_Section_label] using r
  rw [List.filter_eq_self.mpr (by simp)]
  refine alloc_new fun pth H2 n2 e2 k2 => ?_
  have e2' : H2 pth = some (.lst (las.map V.ref)) := by
    rw [e2, show (fun z : Addr × (Addr × Kcs5.Section_) => V.ref z.1) = V.ref ∘ Prod.fst from rfl, ← List.map_map, zip_fst hlas]
  have hth : All2 (fun a l => IL H2 a (nums l)) las (ss.map (·.label)) := by
    have : (ss.map (·.label)) = (as.zip ss).map fun z => z.2.label := by
      conv => lhs; rw [← zip_snd hA]
      rw [List.map_map]; rfl
    rw [this]
    exact hlas.map2' fun a z ⟨dx, t, o, g0, g1, g2⟩ => k2 _ _ g1
  have hhas : ∀ r, (ss.map (·.label)).any (fun x => x == r) = Kcs5.has ss r := fun r => by rw [List.any_map]; rfl
  have hA2 : All2 (SecAt A H2) as ss := (hA.imp fun _ _ h => h.mono wo_le).imp fun _ _ h => h.mono k2
  have S2 := S1.same k2
  have hs2 := k2 _ _ hs'
  clear hlas e2
  simp
  rw [u_tSeq]
  simp
  rw [u_tSeq]
  -- a state of the loops
  have σf : ∀ (pas : Int) (v w : Option V), [some (V.ref L.lw), some (V.int (law : Nat)), some (V.int (on : Nat)), some (V.int (known : Nat)), some (V.int (kk : Nat)), some (V.ref q1), some (V.ref pth), some (V.int pas), v, w] = [some (V.ref L.lw), some (V.int (law : Nat)), some (V.int (on : Nat)), some (V.int (known : Nat)), some (V.int (kk : Nat)), some (V.ref q1), some (V.ref pth), some (V.int pas), v, w] := fun _ _ _ => rfl
  obtain ⟨Pv, hP⟩ := hid (fun (i : Nat) (σ : L2.St) (H' : Hp) => ∃ (v w : Option V), σ = [some (V.ref L.lw), some (V.int (law : Nat)), some (V.int (on : Nat)), some (V.int (known : Nat)), some (V.int (kk : Nat)), some (V.ref q1), some (V.ref pth), some (V.int ((brk ss (ss.take i)).length : Nat)), v, w] ∧ Same H2 H' ∧ (brk ss (ss.take i)).length ≤ kk)
  refine for_seq (a := q1) (xs := as.map V.ref) Pv (fun R r => by simpa using r) (by rw [hP]; exact ⟨none, none, by simp [brk], Same.refl _, by simp [brk]⟩) ?_ ?_ ?_
  · intro i σ H' hp
    rw [hP] at hp
    obtain ⟨v, w, rfl, k, _⟩ := hp
    exact SqL.of (k _ _ hs2)
  · intro i x σ H' hx hp
    rw [hP] at hp
    obtain ⟨v, w, rfl, k, hle⟩ := hp
    rw [List.getElem?_map] at hx
    cases ea : as[i]? with
    | none => rw [ea] at hx; cases hx
    | some a =>
      rw [ea] at hx; cases hx
      obtain ⟨y, ey, hY⟩ := hA2.get ea
      obtain ⟨dx, l1, t1, o1, g0, g1, g2, g3⟩ := hY.ex
      have yl := (hL.sec y (List.mem_of_getElem? ey)).len
      have hrefs : scan none (y.text.map Prod.fst) = Kcs5.refs y.text := scan_refs y.text
      have bsucc : brk ss (ss.take (i + 1)) = brk ss (ss.take i) ++ ((Kcs5.refs y.text).filter fun r => !Kcs5.has ss r).map fun r => (y.label, r) := by
        unfold brk
        rw [List.take_add_one, ey]
        simp
      rw [u_gName]
      refine for_seq2 (S := fun p H3 => Same H2 H3 ∧ LLs H3 p (Kcs5.refs y.text)) ?_ ?_
      · intro R hR
        simp [k _ _ g0, T.cl_Section, T.no_Section_text]
        refine ⟨t1, y.text.map Prod.fst, rfl, k _ _ g2, by simp; omega, fun H3 p3 k3 n3 e3 => hR p3 H3 ⟨Same.tr k k3, ?_⟩⟩
        rw [← hrefs]; exact e3
      rintro pr H3 ⟨k3, ras, er, hR⟩
      obtain ⟨Pw, hW⟩ := hid (fun (j : Nat) (σ : L2.St) (H' : Hp) => ∃ (w : Option V), σ = [some (V.ref L.lw), some (V.int (law : Nat)), some (V.int (on : Nat)), some (V.int (known : Nat)), some (V.int (kk : Nat)), some (V.ref q1), some (V.ref pth), some (V.int (((brk ss (ss.take i)).length + (((Kcs5.refs y.text).take j).filter fun r => !Kcs5.has ss r).length : Nat) : Int)), some (.ref a), w] ∧ Same H3 H' ∧ (brk ss (ss.take i)).length + (((Kcs5.refs y.text).take j).filter fun r => !Kcs5.has ss r).length ≤ kk)
      refine ⟨ras.map V.ref, Pw, by rw [hW]; exact ⟨w, by simp, Same.refl _, by simpa using hle⟩, ?_, ?_, ?_⟩
      · intro j σ H' hp
        rw [hW] at hp
        obtain ⟨w, rfl, k4, _⟩ := hp
        exact SqL.of (k4 _ _ er)
      · intro j x σ H4 hx hp
        rw [hW] at hp
        obtain ⟨w, rfl, k4, hle2⟩ := hp
        rw [List.getElem?_map] at hx
        cases er2 : ras[j]? with
        | none => rw [er2] at hx; cases hx
        | some ra =>
          rw [er2] at hx; cases hx
          obtain ⟨r, erj, hra⟩ := hR.get er2
          have k24 := Same.tr k3 k4
          have hth4 : All2 (fun a l => IL H4 a (nums l)) las (ss.map (·.label)) := hth.imp fun _ _ h => k24 _ _ h
          have fsucc : ((Kcs5.refs y.text).take (j + 1)).filter (fun r => !Kcs5.has ss r) = ((Kcs5.refs y.text).take j).filter (fun r => !Kcs5.has ss r) ++ if Kcs5.has ss r = true then [] else [r] := by
            rw [List.take_add_one, erj]
            cases hh : Kcs5.has ss r <;> simp [List.filter_append, List.filter_cons, hh]
          simp [-u_tIfS]
          rw [u_tIfS]
          simp [-u_tIfS]
          refine notin_lists (k4 _ _ hra) (k24 _ _ e2') hth4 ?_
          rw [hhas]
          cases hh : Kcs5.has ss r with
          | true =>
            simp
            rw [hW]
            rw [hh] at fsucc
            refine ⟨some (.ref ra), by rw [fsucc]; simp, k4, by rw [fsucc]; simpa using hle2⟩
          | false =>
            rw [hh] at fsucc
            simp only [asB_bl, Bool.not_false, if_true]
            rw [u_tSeq]
            simp
            by_cases hk : (brk ss (ss.take i)).length + (((Kcs5.refs y.text).take j).filter fun r => !Kcs5.has ss r).length = kk
            · rw [if_pos (by omega)]
              refine ⟨(by show 1 ≤ sizeLine; decide), alloc_new fun p5 H5 n5 e5 k5 => ?_⟩
              have k25 := Same.tr k24 k5
              have ll := isLabel_len (hL.sec y (List.mem_of_getElem? ey)).lab
              simp [k25 _ _ g0, T.cl_Section, T.no_Section_label]
              refine ⟨l1, y.label, rfl, k25 _ _ g1, by omega, fun H6 p6 k6 n6 e6 => ?_⟩
              have e6' : H6 p6 = some (.lst ((Kcs5Neutral.whole y.label).map V.int)) := e6
              simp [k6 _ _ e5, e6']
              refine ⟨by rw [sz, whole_len]; omega, alloc_new fun p7 H7 n7 e7 k7 => ?_⟩
              have k47 : Same H4 H7 := Same.tr k5 (Same.tr k6 k7)
              have rl : r.length ≤ 5000 := by
                have := isLabel_len (refs_lab y.text r (List.mem_of_getElem? erj))
                omega
              refine ⟨ra, r, rfl, k47 _ _ (k4 _ _ hra), rl, fun H8 p8 k8 n8 e8 => ?_⟩
              have e8' : H8 p8 = some (.lst ((Kcs5Neutral.whole r).map V.int)) := e8
              simp [k8 _ _ e7, e8']
              refine ⟨by rw [sz]; simp [whole_len]; omega, ?_⟩
              refine ans_new' q (S2.same (Same.tr k24 (Same.tr k47 k8))) el ?_
              have hget : (brk ss ss)[kk]? = some (y.label, r) := by
                have e9 : brk ss ss = brk ss (ss.take i) ++ ((((Kcs5.refs y.text).filter fun r => !Kcs5.has ss r).map fun r => (y.label, r)) ++ brk ss (ss.drop (i + 1))) := by
                  conv => lhs; arg 2; rw [← List.take_append_drop i ss, drop_get ey]
                  simp [brk]
                have e10 : (Kcs5.refs y.text).filter (fun r => !Kcs5.has ss r) = ((Kcs5.refs y.text).take j).filter (fun r => !Kcs5.has ss r) ++ r :: ((Kcs5.refs y.text).drop (j + 1)).filter fun r => !Kcs5.has ss r := by
                  conv => lhs; rw [← List.take_append_drop j (Kcs5.refs y.text), drop_get erj]
                  rw [List.filter_append, List.filter_cons_of_pos (by simp [hh])]
                rw [e9, e10, List.getElem?_append_right (by omega)]
                rw [List.map_append, List.append_assoc, List.getElem?_append_right (by simp; omega)]
                simp
                rw [show kk - (brk ss (ss.take i)).length - (((Kcs5.refs y.text).take j).filter fun r => !Kcs5.has ss r).length = 0 from by omega]
                rfl
              rw [hget]
              simp
            · rw [if_neg (by omega), hW]
              refine ⟨some (.ref ra), by rw [fsucc]; simp; omega, k4, by rw [fsucc]; simp; omega⟩
      · intro σ H4 hp
        rw [hW] at hp
        obtain ⟨w, rfl, k4, hle2⟩ := hp
        have rlen := hR.len
        have e11 : (Kcs5.refs y.text).take (ras.map V.ref).length = Kcs5.refs y.text := List.take_of_length_le (by simp; omega)
        rw [e11] at hle2 ⊢
        (try dsimp only)
        rw [hP]
        refine ⟨some (.ref a), w, by rw [bsucc]; simp, Same.tr k3 k4, by rw [bsucc]; simpa using hle2⟩
  · intro σ H' hp
    rw [hP] at hp
    obtain ⟨v, w, rfl, k, hle⟩ := hp
    rw [List.length_map, alen, List.take_length] at hle
    simp
    refine ⟨(by show 1 ≤ sizeLine; decide), ?_⟩
    refine ans_new' q (S2.same k) el ?_
    rw [List.getElem?_eq_none hle]
    rfl
/-! ### next -/
/-- a text, or that there is none -/
def TV (I : Hp) (w : V) : Option (List Nat) → Prop
  | none => w = .non
  | some b => ∃ t, w = .ref t ∧ IL I t (nums b)
theorem TV.mono {I I' : Hp} {w : V} {o : Option (List Nat)} (h : TV I w o) (k : Same I I') : TV I' w o := by
  cases o with
  | none => exact h
  | some b => obtain ⟨t, e, h⟩ := h; exact ⟨t, e, k _ _ h⟩
def dOf : Option (List Nat) → PyData
  | none => .none
  | some b => .list ((nums b).map PyData.int)
theorem TV.dp {H : Hp} {w : V} {o : Option (List Nat)} (h : TV H w o) : Dp K H w (dOf o) := by
  cases o with
  | none => cases h; exact .non
  | some b => obtain ⟨t, rfl, h⟩ := h; exact dp_nums h
theorem ne_opt {H : Hp} {Q : VK} {w1 w2 : V} {o1 o2 : Option (List Nat)} (h1 : TV H w1 o1) (h2 : TV H w2 o2) (q : Q (.bl (o1 != o2)) H) : rNeD K w1 w2 H Q := by
  refine ⟨_, _, h1.dp, h2.dp, ?_, ?_, ?_⟩
  · cases o1 with
    | none => decide
    | some b => exact shaped_ints _
  · cases o2 with
    | none => decide
    | some b => exact shaped_ints _
  · have e : (!PyData.eqv (dOf o1) (dOf o2)) = (o1 != o2) := by
      cases o1 with
      | none => cases o2 with
        | none => rfl
        | some b => simp [PyData.eqv, dOf]
      | some a => cases o2 with
        | none => simp [PyData.eqv, dOf]
        | some b =>
          simp only [dOf, PyData.eqv, eqv_ints]
          rw [Bool.eq_iff_iff]
          simp [nums_inj]
    rw [e]; exact q
theorem pure_tell_next (T : Txt K mg A) (vs : List V) (H : Hp) (Q : VK) (E : XK) (h : sp_tell_next A vs H Q E) : t_tell_next K A (sp_Laws_commands_of A) (sp_Laws_sections_by A) (sp_days_above A) (sp_find_text A) sp_is_askable (sp_is_label K) { nx := fun _ H' => Q .non H', rt := Q } (L2.start ["laws", "law", "label", "on", "known", "commands", "text", "day"] vs) H := by
  obtain ⟨fr, L, s, law, on, known, la, l, rfl, hS, hl, q⟩ := h
  rw [t_tell_next]
  refine tell_open rfl rfl rfl rfl (wo_le _ _ hl) (fun hb => ?_) fun h1 h2 => ?_
  · refine ans_new' q hS rfl ?_
    simp only [ansOf, Kcs5.step]
    rw [if_pos hb]
    rfl
  have hno : ¬ (Kcs5.fair law on known = false ∨ Kcs5.isLabel l = false) := by
    rintro (z | z)
    · rw [h1] at z; cases z
    · rw [h2] at z; cases z
  have hans : ansOf s (.next law l on known) = match Kcs5.next s law l on known with
      | none => [0]
      | some d => [1, (d : Int)] := by
    simp only [ansOf, Kcs5.step]
    rw [if_neg hno]
    cases Kcs5.next s law l on known <;> rfl
  rw [hans] at q
  have hlaw := fair_law h1
  have hlw := hS.lw
  unfold lawF at hlw
  rw [u_tSeq]
  simp [L2.start, hlw]
  refine ⟨fr, L, s, law, known, rfl, hS, fun H1 p zs S1 hz1 ok1 em v1 => ?_⟩
  have hl1 : IL (VW A fr L s.acts H1) la (nums l) := il_n v1 hl
  have hlw1 := S1.lw
  unfold lawF at hlw1
  (try dsimp only)
  rw [u_tSeq]
  simp [hlw1]
  -- one look at a day
  have look : ∀ (d : Nat) (Hx : Hp) (Lx : Lay) (R : VK), StA A fr Lx s Hx → Lx.lw = L.lw → IL (VW A fr Lx s.acts Hx) la (nums l) → ZL (VW A fr Lx s.acts Hx) p zs → ZOk A (VW A fr Lx s.acts Hx) s zs →
      (∀ Hy Ly w, StA A fr Ly s Hy → Ly.lw = L.lw → Same (VW A fr Lx s.acts Hx) (VW A fr Ly s.acts Hy) → TV (VW A fr Ly s.acts Hy) w (Kcs5.textOn s law l d known) → R w Hy) →
      sp_Laws_sections_by A [.ref L.lw, .int (law : Nat), .ref p, .int (d : Nat)] Hx (fun v H1 => sp_find_text A [v, .ref la] H1 R E0) E0 := by
    intro d Hx Lx R Sx ex lx zx okx hR
    refine ⟨fr, Lx, s, law, d, p, zs, by rw [ex], Sx, hlaw, zx, okx, fun H2 Lb q2 S2 el2 v2 hs2 => ?_⟩
    have e : (zs.filter (cnt d)).map (·.2.1) = lawNs s law d known := by
      unfold lawNs
      rw [← em, List.filter_map, List.map_map]
      rfl
    rw [e, ← stands_law] at hs2
    have hL := stands_ok S2.wf law d known
    refine ⟨q2, la, _, l, Ms A fr Lb s.acts, rfl, hs2, wo_le _ _ (v2 _ _ lx), fun H3 t k x k3 exx exl ht => ?_, fun H3 k3 hn => ?_⟩
    · refine hR H3 Lb (.ref t) (S2.same k3) (el2.trans ex) (Same.tr v2 (vw_up k3)) ?_
      unfold Kcs5.textOn
      rw [sectionOf_at hL.nd exx exl]
      exact ⟨t, rfl, ht⟩
    · refine hR H3 Lb .non (S2.same k3) (el2.trans ex) (Same.tr v2 (vw_up k3)) ?_
      unfold Kcs5.textOn
      rw [sectionOf_none hn]
      rfl
  refine look on H1 L _ S1 rfl hl1 hz1 ok1 fun H2 Lb w S2 el2 v2 hw => ?_
  (try dsimp only)
  rw [u_tSeq]
  have hl2 : IL (VW A fr Lb s.acts H2) la (nums l) := v2 _ _ hl1
  have hz2 : ZL (VW A fr Lb s.acts H2) p zs := v2 _ _ hz1
  have ok2 := ok1.mono v2
  refine for_seq2 (S := fun pd H3 => ∃ ds : List Nat, Same H2 H3 ∧ IL (VW A fr Lb s.acts H3) pd (nums ds) ∧ ds.Pairwise (· ≤ ·) ∧ ∀ d, d ∈ ds ↔ on < d ∧ ∃ z ∈ zs, z.2.2.from_ = d ∨ z.2.2.till = d) ?_ ?_
  · intro R hR
    simp
    refine ⟨p, s.acts, zs, on, rfl, wo_le _ _ hz2, ok2.cf, by have := ok2.len; omega, fun H3 pd ds k3 n3 e3 hs3 hm3 => hR pd H3 ⟨ds, k3, wo_new S2.ok n3 e3, hs3, hm3⟩⟩
  rintro pd H3 ⟨ds, k3, hpd, hsort, hmem⟩
  have hmem' : ∀ d, d ∈ ds ↔ on < d ∧ ∃ x ∈ ofLaw s law known, x.2.from_ = d ∨ x.2.till = d := fun d => by
    rw [hmem, ← em]
    simp only [List.mem_map]
    constructor
    · rintro ⟨a, z, hz, e⟩; exact ⟨a, z.2, ⟨z, hz, rfl⟩, e⟩
    · rintro ⟨a, x, ⟨z, hz, rfl⟩, e⟩; exact ⟨a, z, hz, e⟩
  rw [next_days hS.wf hsort hmem'] at q
  obtain ⟨Pv, hP⟩ := hid (fun (i : Nat) (σ : L2.St) (H' : Hp) => ∃ (Lx : Lay) (v : Option V), σ = [some (V.ref L.lw), some (V.int (law : Nat)), some (.ref la), some (V.int (on : Nat)), some (V.int (known : Nat)), some (V.ref p), some w, v] ∧ StA A fr Lx s H' ∧ Lx.lw = L.lw ∧ IL (VW A fr Lx s.acts H') la (nums l) ∧ ZL (VW A fr Lx s.acts H') p zs ∧ ZOk A (VW A fr Lx s.acts H') s zs ∧
    IL (VW A fr Lx s.acts H') pd (nums ds) ∧ TV (VW A fr Lx s.acts H') w (Kcs5.textOn s law l on known) ∧ ∀ d ∈ ds.take i, (Kcs5.textOn s law l d known != Kcs5.textOn s law l on known) = false)
  refine ⟨(nums ds).map V.int, Pv, ?_, ?_, ?_, ?_⟩
  · rw [hP]
    exact ⟨Lb, none, rfl, S2.same k3, el2, vw_up k3 _ _ hl2, vw_up k3 _ _ hz2, ok2.mono (vw_up k3), hpd, hw.mono (vw_up k3), by simp⟩
  · intro i σ H' hp
    rw [hP] at hp
    obtain ⟨Lx, v, rfl, Sx, ex, lx, zx, okx, px, tx, hx⟩ := hp
    exact SqL.of (wo_le _ _ px)
  · intro i x σ H' hx hp
    rw [hP] at hp
    obtain ⟨Lx, v, rfl, Sx, ex, lx, zx, okx, px, tx, hfa⟩ := hp
    obtain ⟨d, hd, rfl⟩ := nums_map hx
    have hlwx := Sx.lw
    unfold lawF at hlwx
    rw [ex] at hlwx
    simp [hlwx]
    refine look d H' Lx _ Sx ex lx zx okx fun H4 L4 w4 S4 el4 v4 hw4 => ?_
    refine ne_opt (hw4.mono wo_le) ((tx.mono v4).mono wo_le) ?_
    simp only [asB_bl]
    cases hne : Kcs5.textOn s law l d known != Kcs5.textOn s law l on known with
    | true =>
      simp
      refine ⟨(by show 2 ≤ sizeLine; decide), ?_⟩
      refine ans_new' q S4 el4 ?_
      have hfind : (ds.find? fun d => Kcs5.textOn s law l d known != Kcs5.textOn s law l on known) = some d := by
        rw [List.find?_eq_some_iff_getElem]
        refine ⟨hne, i, (List.getElem?_eq_some_iff.mp hd).1, (List.getElem?_eq_some_iff.mp hd).2, fun j hj => ?_⟩
        have := hfa (ds[j]'(by have := (List.getElem?_eq_some_iff.mp hd).1; omega)) (List.mem_take_iff_getElem.mpr ⟨j, by have := (List.getElem?_eq_some_iff.mp hd).1; omega, rfl⟩)
        simpa using this
      rw [hfind]
      simp
    | false =>
      simp
      rw [hP]
      refine ⟨L4, some (.int (d : Nat)), rfl, S4, el4, v4 _ _ lx, v4 _ _ zx, okx.mono v4, v4 _ _ px, tx.mono v4, fun e he => ?_⟩
      rw [List.take_add_one, hd] at he
      simp at he
      rcases he with he | rfl
      · exact hfa e he
      · exact hne
  · intro σ H' hp
    rw [hP] at hp
    obtain ⟨Lx, v, rfl, Sx, ex, lx, zx, okx, px, tx, hfa⟩ := hp
    simp
    refine ⟨(by show 1 ≤ sizeLine; decide), ?_⟩
    refine ans_new' q Sx ex ?_
    have hlen : ds.take ((nums ds).map V.int).length = ds := List.take_of_length_le (by simp)
    rw [hlen] at hfa
    have hfind : (ds.find? fun d => Kcs5.textOn s law l d known != Kcs5.textOn s law l on known) = none := by
      rw [List.find?_eq_none]
      intro d hd
      rw [hfa d hd]; simp
    rw [hfind]
    rfl
end
end LD

namespace LD
open PySem PySem.Spec PyProof.Rows L2
def sp_Laws_without_effect (A : Ad) : Sp := fun vs H Q _ => ∃ (fr : Cells) (L : Lay) (s : Kcs5.Abs) (on known : Nat), vs = [.ref L.lw, .int (on : Nat), .int (known : Nat)] ∧ StA A fr L s H ∧ Ans A fr L s Q (nums (Kcs5.idle s on known))
abbrev Ent := Nat × Addr
def ekv (e : Ent) : Key × V := (kI e.1, .ref e.2)
def ofL (ws : List ZC) (law : Nat) : List ZC := ws.filter fun z => decide (z.2.2.law = law)
def ec (ws : List ZC) (e : Ent) : Addr × HO := (e.2, .lst ((ofL ws e.1).map fun z => V.ref z.1))
structure EOk (E : List Ent) (ws : List ZC) : Prop where
  nd : (E.map Prod.fst).Nodup
  mem : ∀ z ∈ ws, z.2.2.law ∈ E.map Prod.fst
  sub : ∀ e ∈ E, ∃ z ∈ ws, z.2.2.law = e.1
section
variable {K : PySem.W.Frag} {mg : Str → Option Value} {A : Ad}
theorem val_ent {E : List Ent} {law : Nat} : valV (E.map ekv) (kI law) = (E.find? fun e => decide (e.1 = law)).map fun e => .ref e.2 := by
  induction E with
  | nil => rfl
  | cons x r ih =>
    rw [List.map_cons, List.find?_cons]
    by_cases h : x.1 = law
    · rw [valV_pos (show (ekv x).1 = kI law from kI_inj.mpr h)]
      simp [h, ekv]
    · rw [valV_neg (show ¬ (ekv x).1 = kI law from fun e => h (kI_inj.mp e)), ih]
      simp [h]
theorem setd_app (T : Txt K mg A) {D : Ends} {σ : L2.St} {H : Hp} {pb za dx2 : Addr} {law : Nat} {kvs : List (Key × V)} {v1 v2 v3 : V} {r : List (Str × V)} (s4 : σ[4]? = some (some (.ref pb))) (s5 : σ[5]? = some (some (.ref za)))
    (hz : H za = some (.ins A.c_Command dx2 (("kind", v1) :: ("number", v2) :: ("act", v3) :: ("law", .int (law : Nat)) :: r))) (hb : H pb = some (.dK kvs)) (hl : kvs.length < sizeLine)
    (h1 : ∀ v, valV kvs (kI law) = some v → ∃ b xs, v = .ref b ∧ H b = some (.lst xs) ∧ xs.length < sizeLine ∧ ∀ H3, Same H H3 → D.nx σ (upd H3 b (.lst (xs ++ [.ref za]))))
    (h2 : valV kvs (kI law) = none → ∀ pn H3, H pn = none → Same H H3 → H3 pn = some (.lst []) → D.nx σ (upd (upd H3 pb (.dK (putK kvs (kI law) (.ref pn)))) pn (.lst [.ref za]))) :
    tDrop (tBM K "list" rAppend (tDSetd (tVar 4) (tFld K (tVar 5) "law") (tLst tNil)) (tCons (tVar 5) tNil)) D σ H := by
  have sl4 : ∀ R : V → Prop, slot σ 4 R ↔ R (.ref pb) := fun R => by simp [slot, s4]
  have sl5 : ∀ R : V → Prop, slot σ 5 R ↔ R (.ref za) := fun R => by simp [slot, s5]
  unfold tDSetd
  simp [-upd_at, sl4, sl5, hz, T.cl_Command, T.no_Command_law]
  refine ⟨.inl ⟨kvs, .inl hb⟩, alloc_new fun pn H3 n3 e3 k3 => ?_⟩
  refine ⟨kvs, k3 _ _ hb, Sum.inl (law : Int), rfl, hl, fun v hv => ?_, fun hv => ?_⟩
  · obtain ⟨b, xs, rfl, eb, hx, q⟩ := h1 v hv
    simp [-upd_at, k3 _ _ eb, sl5]
    exact ⟨.inl ⟨rfl, _, SqL.of (k3 _ _ eb)⟩, hx, q H3 k3⟩
  · have pnb : pn ≠ pb := (ne_of_none hb n3).symm
    have e4 : upd H3 pb (.dK (putK kvs (Sum.inl (law : Int)) (.ref pn))) pn = some (.lst []) := (upd_ne pnb).trans e3
    refine ⟨.inl ⟨rfl, _, SqL.of e4⟩, ?_⟩
    simp only [u_tCons, u_tNil, u_tVar, sl5, u_rAppend, asR_ref, one_1, e4, lstO_some]
    exact ⟨by show 0 < sizeLine; decide, h2 hv pn H3 n3 k3 e3⟩
theorem ofL_snoc {ws : List ZC} {z : ZC} {law : Nat} : ofL (ws ++ [z]) law = ofL ws law ++ if z.2.2.law = law then [z] else [] := by
  unfold ofL
  rw [List.filter_append]
  by_cases h : z.2.2.law = law <;> simp [h]
theorem ofL_none {E : List Ent} {ws : List ZC} (h : EOk E ws) {law : Nat} (hn : law ∉ E.map Prod.fst) : ofL ws law = [] := by
  unfold ofL
  rw [List.filter_eq_nil_iff]
  intro z hz e
  have : z.2.2.law = law := by simpa using e
  exact hn (this ▸ h.mem z hz)
/-- one command more in its law's list -/
theorem ent_step {fr : Cells} {L : Lay} {s : Kcs5.Abs} {H : Hp} {pb : Addr} {E : List Ent} {ws : List ZC} {z : ZC} (hS : StA A ((pb, .dK (E.map ekv)) :: (E.map (ec ws) ++ fr)) L s H) (hE : EOk E ws) :
    (∀ b, valV (E.map ekv) (kI z.2.2.law) = some (.ref b) → H b = some (.lst ((ofL ws z.2.2.law).map fun z => V.ref z.1)) ∧ ∀ H3, Same H H3 → EOk E (ws ++ [z]) ∧
      StA A ((pb, .dK (E.map ekv)) :: (E.map (ec (ws ++ [z])) ++ fr)) L s (upd H3 b (.lst ((ofL ws z.2.2.law).map (fun z => V.ref z.1) ++ [.ref z.1]))) ∧ Same (VW A ((pb, .dK (E.map ekv)) :: (E.map (ec ws) ++ fr)) L s.acts H) (VW A ((pb, .dK (E.map ekv)) :: (E.map (ec (ws ++ [z])) ++ fr)) L s.acts (upd H3 b (.lst ((ofL ws z.2.2.law).map (fun z => V.ref z.1) ++ [.ref z.1]))))) ∧
    (valV (E.map ekv) (kI z.2.2.law) = none → ∀ pn H3, H pn = none → Same H H3 → H3 pn = some (.lst []) → EOk (E ++ [(z.2.2.law, pn)]) (ws ++ [z]) ∧
      StA A ((pb, .dK ((E ++ [(z.2.2.law, pn)]).map ekv)) :: ((E ++ [(z.2.2.law, pn)]).map (ec (ws ++ [z])) ++ fr)) L s (upd (upd H3 pb (.dK (putK (E.map ekv) (kI z.2.2.law) (.ref pn)))) pn (.lst [.ref z.1])) ∧
      Same (VW A ((pb, .dK (E.map ekv)) :: (E.map (ec ws) ++ fr)) L s.acts H) (VW A ((pb, .dK ((E ++ [(z.2.2.law, pn)]).map ekv)) :: ((E ++ [(z.2.2.law, pn)]).map (ec (ws ++ [z])) ++ fr)) L s.acts (upd (upd H3 pb (.dK (putK (E.map ekv) (kI z.2.2.law) (.ref pn)))) pn (.lst [.ref z.1])))) := by
  have other : ∀ (F : List Ent), (∀ e ∈ F, e.1 ≠ z.2.2.law) → F.map (ec (ws ++ [z])) = F.map (ec ws) := fun F hF => by
    apply List.map_congr_left
    intro e he
    unfold ec
    rw [ofL_snoc, if_neg (fun h => hF e he h.symm), List.append_nil]
  constructor
  · intro b hv
    rw [val_ent] at hv
    cases hf : E.find? fun e => decide (e.1 = z.2.2.law) with
    | none => rw [hf] at hv; cases hv
    | some e =>
      rw [hf] at hv
      have hb : e.2 = b := by simpa using hv
      subst hb
      have he : e.1 = z.2.2.law := by simpa using List.find?_some hf
      have hm := List.mem_of_find?_eq_some hf
      obtain ⟨E1, E2, hEE⟩ := List.append_of_mem hm
      have nd := hE.nd
      have n1 : ∀ x ∈ E1, x.1 ≠ z.2.2.law := fun x hx h => by
        rw [hEE, List.map_append, List.nodup_append] at nd
        exact nd.2.2 x.1 (List.mem_map.mpr ⟨x, hx, rfl⟩) e.1 (by simp) (h.trans he.symm)
      have n2 : ∀ x ∈ E2, x.1 ≠ z.2.2.law := fun x hx h => by
        rw [hEE, List.map_append, List.nodup_append] at nd
        have := nd.2.1
        simp only [List.map_cons, List.nodup_cons] at this
        exact this.1 (List.mem_map.mpr ⟨x, hx, h.trans he.symm⟩)
      have p1 : List.Perm ((pb, HO.dK (E.map ekv)) :: (E.map (ec ws) ++ fr)) (ec ws e :: (pb, HO.dK (E.map ekv)) :: (E1.map (ec ws) ++ E2.map (ec ws) ++ fr)) := by
        refine List.Perm.trans (List.Perm.cons _ ?_) (List.Perm.swap _ _ _)
        rw [show E.map (ec ws) = E1.map (ec ws) ++ ec ws e :: E2.map (ec ws) from by rw [hEE]; simp]
        rw [List.append_assoc, List.append_assoc, List.cons_append]
        exact List.perm_middle
      obtain ⟨S1, v1⟩ := hS.perm p1
      have hHb : H e.2 = some (.lst ((ofL ws z.2.2.law).map fun z => V.ref z.1)) := by
        have := S1.frAt.hd
        rw [he] at this
        exact this
      refine ⟨hHb, fun H3 k3 => ?_⟩
      have S3 := S1.same k3
      have S3' : StA A ((e.2, .lst ((ofL ws e.1).map fun z => V.ref z.1)) :: (pb, HO.dK (E.map ekv)) :: (E1.map (ec ws) ++ E2.map (ec ws) ++ fr)) L s H3 := S3
      obtain ⟨S4, v4⟩ := S3'.set (H' := upd H3 e.2 (.lst ((ofL ws z.2.2.law).map (fun z => V.ref z.1) ++ [.ref z.1]))) upd_same trivial (Kp.wr (by simp))
      have p2 : List.Perm ((e.2, HO.lst ((ofL ws z.2.2.law).map (fun z => V.ref z.1) ++ [.ref z.1])) :: (pb, HO.dK (E.map ekv)) :: (E1.map (ec ws) ++ E2.map (ec ws) ++ fr)) ((pb, HO.dK (E.map ekv)) :: (E.map (ec (ws ++ [z])) ++ fr)) := by
        refine List.Perm.trans (List.Perm.swap _ _ _) (List.Perm.cons _ ?_)
        have ecell : ec (ws ++ [z]) e = (e.2, HO.lst ((ofL ws z.2.2.law).map (fun z => V.ref z.1) ++ [.ref z.1])) := by
          unfold ec
          rw [ofL_snoc, he, if_pos rfl]
          simp
        rw [show E.map (ec (ws ++ [z])) = E1.map (ec ws) ++ ec (ws ++ [z]) e :: E2.map (ec ws) from by
          conv => lhs; rw [hEE]
          rw [List.map_append, List.map_cons, other E1 n1, other E2 n2], ecell]
        rw [List.append_assoc, List.append_assoc, List.cons_append]
        exact List.perm_middle.symm
      obtain ⟨S5, v5⟩ := S4.perm p2
      refine ⟨⟨hE.nd, fun y hy => ?_, fun e' he' => ?_⟩, S5, Same.tr v1 (Same.tr (vw_up k3) (Same.tr v4 v5))⟩
      · simp at hy
        rcases hy with hy | rfl
        · exact hE.mem y hy
        · exact List.mem_map.mpr ⟨e, hm, he⟩
      · obtain ⟨y, hy, h⟩ := hE.sub e' he'
        exact ⟨y, by simp [hy], h⟩
  · intro hv pn H3 npn k3 e3
    rw [val_ent] at hv
    have hf : E.find? (fun e => decide (e.1 = z.2.2.law)) = none := by
      cases h : E.find? (fun e => decide (e.1 = z.2.2.law)) with
      | none => rfl
      | some e => rw [h] at hv; cases hv
    have hno : z.2.2.law ∉ E.map Prod.fst := fun hm => by
      rw [List.mem_map] at hm
      obtain ⟨e, he, h⟩ := hm
      rw [List.find?_eq_none] at hf
      exact hf e he (by simpa using h)
    have hne : ∀ e ∈ E, e.1 ≠ z.2.2.law := fun e he h => hno (List.mem_map.mpr ⟨e, he, h⟩)
    have hput : putK (E.map ekv) (kI z.2.2.law) (.ref pn) = (E ++ [(z.2.2.law, pn)]).map ekv := by
      rw [putK_new _ (by rw [val_ent, hf]; rfl)]
      simp [ekv]
    have hSpb : H pb = some (.dK (E.map ekv)) := hS.frAt.hd
    have pnb : pn ≠ pb := (ne_of_none hSpb npn).symm
    -- the new list comes into the frame, then the dict is written, then the list
    obtain ⟨S1, v1⟩ := hS.add npn k3 e3 trivial
    obtain ⟨S2, v2⟩ := S1.perm (List.Perm.swap _ _ _)
    obtain ⟨S3, v3⟩ := S2.set (H' := upd H3 pb (.dK (putK (E.map ekv) (kI z.2.2.law) (.ref pn)))) upd_same trivial (Kp.wr (by simp))
    obtain ⟨S4, v4⟩ := S3.perm (List.Perm.swap _ _ _)
    obtain ⟨S5, v5⟩ := S4.set (H' := upd (upd H3 pb (.dK (putK (E.map ekv) (kI z.2.2.law) (.ref pn)))) pn (.lst [.ref z.1])) upd_same trivial (Kp.wr (by simp))
    have p2 : List.Perm ((pn, HO.lst [V.ref z.1]) :: (pb, HO.dK (putK (E.map ekv) (kI z.2.2.law) (.ref pn))) :: (E.map (ec ws) ++ fr)) ((pb, HO.dK ((E ++ [(z.2.2.law, pn)]).map ekv)) :: ((E ++ [(z.2.2.law, pn)]).map (ec (ws ++ [z])) ++ fr)) := by
      rw [hput]
      refine List.Perm.trans (List.Perm.swap _ _ _) (List.Perm.cons _ ?_)
      have ecell : ec (ws ++ [z]) (z.2.2.law, pn) = (pn, HO.lst [V.ref z.1]) := by
        unfold ec
        rw [ofL_snoc, if_pos rfl, ofL_none hE hno]
        rfl
      rw [List.map_append, other E hne, List.map_cons, List.map_nil, ecell, List.append_assoc]
      exact List.perm_middle.symm
    obtain ⟨S6, v6⟩ := S5.perm p2
    refine ⟨⟨?_, fun y hy => ?_, fun e' he' => ?_⟩, S6, Same.tr v1 (Same.tr v2 (Same.tr v3 (Same.tr v4 (Same.tr v5 v6))))⟩
    · rw [List.map_append, List.nodup_append]
      refine ⟨hE.nd, by simp, fun a ha b hb => ?_⟩
      simp at hb
      subst hb
      exact fun h => hno (h ▸ ha)
    · simp at hy
      rw [List.map_append, List.mem_append]
      rcases hy with hy | rfl
      · exact .inl (hE.mem y hy)
      · exact .inr (by simp)
    · rw [List.mem_append] at he'
      rcases he' with he' | he'
      · obtain ⟨y, hy, h⟩ := hE.sub e' he'
        exact ⟨y, by simp [hy], h⟩
      · simp at he'
        subst he'
        exact ⟨z, by simp, rfl⟩
end
end LD

namespace LD
open PySem PySem.Spec PyProof.Rows L2
section
variable {K : PySem.W.Frag} {mg : Str → Option Value} {A : Ad}
/-- several leave the frame: they may be looked at -/
theorem StA.drops {xs fr : Cells} {L : Lay} {s : Kcs5.Abs} {H : Hp} (h : StA A (xs ++ fr) L s H) : StA A fr L s H ∧ Same (VW A (xs ++ fr) L s.acts H) (VW A fr L s.acts H) ∧ ∀ p ∈ xs, VW A fr L s.acts H p.1 = some p.2 := by
  have hat := h.at_
  rw [List.append_assoc] at hat
  have v : Same (VW A (xs ++ fr) L s.acts H) (VW A fr L s.acts H) := vw_same fun b u nb eb => by
    refine ⟨?_, eb⟩
    simp only [Ms, List.mem_cons, not_or, List.append_assoc, keys_app, List.mem_append] at nb ⊢
    exact ⟨nb.1, nb.2.2⟩
  refine ⟨h.re hat.right h.tab v rfl (fun x m => .inl m) h.nd, v, fun p hp => ?_⟩
  have hp1 := h.at_.at_ p (by simp [hp])
  have hpl := h.at_.pl p (by simp [hp])
  have nd := hat.nd
  rw [keys_app, List.nodup_append] at nd
  refine (wo_out ?_).trans hp1
  simp only [Ms, List.mem_cons, not_or]
  refine ⟨fun e => ?_, fun m => nd.2.2 p.1 (List.mem_map.mpr ⟨p, hp, rfl⟩) p.1 m rfl⟩
  obtain ⟨ps, ep, _⟩ := h.tab
  rw [← e, hp1] at ep
  have := Option.some.inj ep
  rw [this] at hpl
  exact hpl
theorem StA.crM {fr : Cells} {L : Lay} {s : Kcs5.Abs} {x : Cr} (hx : x ∈ L.crs) : x.c ∈ Ms A fr L s.acts := by
  simp only [Ms, List.mem_cons]
  right
  simp only [Lay.cells, keys, List.map_append, List.mem_append]
  right; right
  rw [List.mem_map]
  exact ⟨(x.c, .ins A.c_Course x.dx (crsF x.st)), by rw [List.mem_flatMap]; exact ⟨x, hx, by simp [Cr.cells]⟩, rfl⟩
theorem idleOf_len {W : Nat → Kcs5.What} {ns : List Nat} : (idleOf W [] ns).length ≤ ns.length := by
  unfold idleOf
  rw [List.length_map]
  refine Nat.le_trans (List.length_filter_le _ _) ?_
  rw [stepsOf_len]; exact Nat.le_refl _
theorem perm_nums {ns : List Int} {l : List Nat} (h : ns.Perm (nums l)) : ∃ out : List Nat, ns = nums out ∧ out.Perm l := by
  have e : ns = nums (ns.map Int.toNat) := by
    show ns = (ns.map Int.toNat).map fun (x : Nat) => (x : Int)
    rw [List.map_map]
    conv => lhs; rw [← List.map_id ns]
    apply List.map_congr_left
    intro x hx
    have := h.mem_iff.mp hx
    simp [Kcs5Neutral.nums] at this
    obtain ⟨a, _, rfl⟩ := this
    rfl
  refine ⟨ns.map Int.toNat, e, ?_⟩
  have := h.map Int.toNat
  rw [show (nums l).map Int.toNat = l from by simp [Kcs5Neutral.nums, Function.comp_def]] at this
  exact this
theorem ent_val : ∀ {E : List Ent} {e : Ent}, (E.map Prod.fst).Nodup → e ∈ E → valV (E.map ekv) (kI e.1) = some (.ref e.2)
  | [], e, _, h => by cases h
  | x :: E, e, hn, h => by
    rw [List.map_cons, List.nodup_cons] at hn
    rw [List.map_cons]
    simp only [List.mem_cons] at h
    rcases h with rfl | h
    · exact valV_pos rfl
    · rw [valV_neg, ent_val hn.2 h]
      intro e2
      exact hn.1 (List.mem_map.mpr ⟨e, h, (kI_inj.mp e2).symm⟩)
theorem pure_Laws_without_effect (T : Txt K mg A) (vs : List V) (H : Hp) (Q : VK) (E : XK) (h : sp_Laws_without_effect A vs H Q E) : t_Laws_without_effect K A (sp_Course_take_all A) (sp_Course_without_effect A) (sp_Laws_course_of A) (sp_Record_valid_on A) (sp_counting_on A) (sp_in_order K A) { nx := fun _ H' => Q .non H', rt := Q } (L2.start ["self", "on", "known", "found", "by_law", "command", "law", "course"] vs) H := by
  obtain ⟨fr, L, s, on, known, rfl, hS, q⟩ := h
  rw [t_Laws_without_effect, u_tSeq]
  simp [L2.start]
  refine alloc_new fun pf H1 n1 e1 k1 => ?_
  obtain ⟨S1, v1⟩ := hS.add n1 k1 e1 trivial
  rw [u_tSeq]
  simp
  refine alloc_new fun pb H2 n2 e2 k2 => ?_
  obtain ⟨S2, v2⟩ := S1.add n2 k2 e2 trivial
  rw [u_tSeq]
  have hlw := S2.lw
  have hr := S2.r
  have hr' := hr
  unfold recF at hr'
  unfold lawF at hlw
  -- the commands that count
  have hcf : ∀ z ∈ zsOf L s, CF A s.acts H2 z.1 z.2 := fun z hz => (S2.zcf z hz).1.cf.mono wo_le
  have hzl := S2.zlen
  have hidx : (zsOf L s).map Prod.snd = idx s := zip_snd S2.cmd
  have hvl := vld_flt (k := known) hidx
  have vsub : ∀ z ∈ vld ((zsOf L s).filter (kn known)), z ∈ zsOf L s := fun z hz => by
    unfold vld at hz
    exact (List.mem_filter.mp (List.mem_filter.mp hz).1).1
  have vlen : (vld ((zsOf L s).filter (kn known))).length ≤ 1024 := by
    unfold vld
    exact Nat.le_trans (List.length_filter_le _ _) (Nat.le_trans (List.length_filter_le _ _) hzl)
  have hvok : ZOk A (VW A ((pb, .dK []) :: (pf, .lst []) :: fr) L s.acts H2) s (vld ((zsOf L s).filter (kn known))) := by
    refine ⟨fun z hz => (S2.zcf z (vsub z hz)).1, fun z hz => (S2.zcf z (vsub z hz)).2, fun z hz => ?_, vlen⟩
    unfold vld at hz
    have := (List.mem_filter.mp hz).2
    simp at this
    exact this.1
  generalize hzv : vld ((zsOf L s).filter (kn known)) = zv at *
  refine for_seq2 (S := fun pl H3 => Same H2 H3 ∧ ZL (VW A ((pb, .dK []) :: (pf, .lst []) :: fr) L s.acts H3) pl (zv.filter (cnt on))) ?_ ?_
  · intro R hR
    simp [hlw, hr', T.cl_Laws, T.no_Laws_record]
    refine ⟨L.r, L.dr, L.dl, L.cl, s.acts, zsOf L s, known, rfl, hr, S2.dl, S2.zl, hcf, by omega, fun H3 p3 k3 n3 e3 => ?_⟩
    rw [hzv] at e3
    refine ⟨p3, s.acts, zv, on, rfl, e3, fun z hz => (hvok.cf z hz).mono k3, by omega, fun H4 p4 k4 n4 e4 => hR p4 H4 ⟨Same.tr k3 k4, wo_new (S2.same k3).ok n4 e4⟩⟩
  rintro pl H3 ⟨k3, hpl⟩
  have hzok : ZOk A (VW A ((pb, .dK []) :: (pf, .lst []) :: fr) L s.acts H3) s (zv.filter (cnt on)) := (hvok.flt _).mono (vw_up k3)
  have hcm : (zv.filter (cnt on)).map Prod.snd = (validOn s known).filter fun x => onDay on x.2 := by
    rw [← hvl, List.filter_map]; rfl
  generalize hzc : zv.filter (cnt on) = zc at *
  have S3 := S2.same k3
  obtain ⟨Pv, hP⟩ := hid (fun (i : Nat) (σ : L2.St) (H' : Hp) => ∃ (E : List Ent) (v : Option V), σ = [some (.ref L.lw), some (.int (on : Nat)), some (.int (known : Nat)), some (.ref pf), some (.ref pb), v, none, none] ∧ EOk E (zc.take i) ∧ StA A ((pb, .dK (E.map ekv)) :: (E.map (ec (zc.take i)) ++ (pf, .lst []) :: fr)) L s H' ∧
    ZL (VW A ((pb, .dK (E.map ekv)) :: (E.map (ec (zc.take i)) ++ (pf, .lst []) :: fr)) L s.acts H') pl zc ∧ ZOk A (VW A ((pb, .dK (E.map ekv)) :: (E.map (ec (zc.take i)) ++ (pf, .lst []) :: fr)) L s.acts H') s zc ∧ E.length ≤ i)
  refine ⟨zc.map fun z => V.ref z.1, Pv, ?_, ?_, ?_, ?_⟩
  · rw [hP]
    exact ⟨[], none, rfl, ⟨by simp, by simp, by simp⟩, S3, hpl, hzok, by simp⟩
  · intro i σ H' hp
    rw [hP] at hp
    obtain ⟨E, v, rfl, hE, Sx, px, okx, hl⟩ := hp
    exact SqL.of (wo_le _ _ px)
  · intro i x σ H' hx hp
    rw [hP] at hp
    obtain ⟨E, v, rfl, hE, Sx, px, okx, hl⟩ := hp
    rw [List.getElem?_map] at hx
    cases ez : zc[i]? with
    | none => rw [ez] at hx; cases hx
    | some z =>
      rw [ez] at hx; cases hx
      have hmz : z ∈ zc := List.mem_of_getElem? ez
      have hi := (List.getElem?_eq_some_iff.mp ez).1
      have zl := okx.len
      obtain ⟨dx2, kd, ac, fo, tg, v1', v2', v3', v4', v5', h0, _⟩ := (okx.cf z hmz).ex
      obtain ⟨st1, st2⟩ := ent_step (z := z) Sx hE
      have tk : zc.take (i + 1) = zc.take i ++ [z] := by rw [List.take_add_one, ez]; rfl
      rw [u_gName]
      refine setd_app T (law := z.2.2.law) (kvs := E.map ekv) rfl rfl h0 Sx.frAt.hd (by simp; rw [sz]; omega) (fun v hv => ?_) fun hv pn H4 npn k4 e4 => ?_
      · obtain ⟨b, rfl⟩ : ∃ b, v = .ref b := by
          rw [val_ent] at hv
          cases hf : E.find? fun e => decide (e.1 = z.2.2.law) with
          | none => rw [hf] at hv; cases hv
          | some e => rw [hf] at hv; exact ⟨e.2, by simpa using hv.symm⟩
        obtain ⟨eb, go⟩ := st1 b hv
        refine ⟨b, _, rfl, eb, ?_, fun H4 k4 => ?_⟩
        · have : (ofL (zc.take i) z.2.2.law).length ≤ i := by
            unfold ofL
            refine Nat.le_trans (List.length_filter_le _ _) ?_
            rw [List.length_take]; omega
          simp; rw [sz]; omega
        · obtain ⟨hE', S', v'⟩ := go H4 k4
          (try dsimp only)
          rw [hP]
          refine ⟨E, some (.ref z.1), rfl, by rw [tk]; exact hE', by rw [tk]; exact S', by rw [tk]; exact v' _ _ px, by rw [tk]; exact okx.mono v', by omega⟩
      · obtain ⟨hE', S', v'⟩ := st2 hv pn H4 npn k4 e4
        (try dsimp only)
        rw [hP]
        refine ⟨E ++ [(z.2.2.law, pn)], some (.ref z.1), rfl, by rw [tk]; exact hE', by rw [tk]; exact S', by rw [tk]; exact v' _ _ px, by rw [tk]; exact okx.mono v', by simp; omega⟩
  · intro σ H' hp
    rw [hP] at hp
    obtain ⟨E, v, rfl, hE, Sx, px, okx, hl⟩ := hp
    rw [List.length_map, List.take_length] at hE Sx px okx
    -- the lists may be looked at
    have pm : List.Perm ((pb, HO.dK (E.map ekv)) :: (E.map (ec zc) ++ (pf, .lst []) :: fr)) (E.map (ec zc) ++ ((pb, HO.dK (E.map ekv)) :: (pf, .lst []) :: fr)) := List.perm_middle.symm
    obtain ⟨Sa, va⟩ := Sx.perm pm
    obtain ⟨Sb, vb, hvis⟩ := Sa.drops
    have okb := (okx.mono va).mono vb
    have vis : ∀ e ∈ E, VW A ((pb, HO.dK (E.map ekv)) :: (pf, .lst []) :: fr) L s.acts H' e.2 = some (.lst ((ofL zc e.1).map fun z => V.ref z.1)) := fun e he => hvis (ec zc e) (List.mem_map.mpr ⟨e, he, rfl⟩)
    clear va vb hvis Sa Sx px okx pm
    have elaw : ∀ e ∈ E, e.1 < 64 := fun e he => by
      obtain ⟨z, hz, h⟩ := hE.sub e he
      rw [← h]
      exact (hS.wf.ok _ _ (idx_mem (okb.idx z hz))).law
    have elen : E.length ≤ 64 := by
      have := nodup_lt 64 _ hE.nd fun n hn => by
        rw [List.mem_map] at hn
        obtain ⟨e, he, rfl⟩ := hn
        exact elaw e he
      simpa using this
    (try dsimp only)
    rw [u_tSeq]
    refine ⟨pb, _, Sb.frAt.hd, trivial, fun od => ?_⟩
    obtain ⟨Sc, vc⟩ := Sb.set (H' := upd H' pb (.frz od (.dK (E.map ekv)))) upd_same trivial (Kp.wr (by simp))
    have okc := okb.mono vc
    have visc : ∀ e ∈ E, VW A ((pb, HO.frz od (.dK (E.map ekv))) :: (pf, .lst []) :: fr) L s.acts (upd H' pb (.frz od (.dK (E.map ekv)))) e.2 = some (.lst ((ofL zc e.1).map fun z => V.ref z.1)) := fun e he => vc _ _ (vis e he)
    generalize upd H' pb (.frz od (.dK (E.map ekv))) = Hc at *
    obtain ⟨Pw, hW⟩ := hid (fun (j : Nat) (σ : L2.St) (H' : Hp) => ∃ (Lx : Lay) (fnd : List Nat) (v5 v6 v7 : Option V), σ = [some (.ref L.lw), some (.int (on : Nat)), some (.int (known : Nat)), some (.ref pf), some (.ref pb), v5, v6, v7] ∧
      StA A ((pb, .frz od (.dK (E.map ekv))) :: (pf, .lst ((nums fnd).map V.int)) :: fr) Lx s H' ∧ Lx.lw = L.lw ∧ ZOk A (VW A ((pb, .frz od (.dK (E.map ekv))) :: (pf, .lst ((nums fnd).map V.int)) :: fr) Lx s.acts H') s zc ∧
      (∀ e ∈ E, VW A ((pb, HO.frz od (.dK (E.map ekv))) :: (pf, .lst ((nums fnd).map V.int)) :: fr) Lx s.acts H' e.2 = some (.lst ((ofL zc e.1).map fun z => V.ref z.1))) ∧
      fnd = (E.take j).flatMap (fun e => idleOf (what s) [] (lawNs s e.1 on known)) ∧ fnd.length ≤ 1024 * j)
    refine ⟨.ref pb, rfl, pb, od, rfl, .inl ⟨_, Sc.frAt.hd, for_it (walk_keys (d := pb) (o := od) (kvs := E.map ekv)) Pw ?_ ?_ ?_ ?_⟩⟩
    · rw [hW]
      exact ⟨L, [], v, none, none, rfl, Sc, rfl, okc, visc, by simp, by simp⟩
    · intro j σ H5 _ hp
      rw [hW] at hp
      obtain ⟨Lx, fnd, v5, v6, v7, rfl, Sx, _⟩ := hp
      exact Sx.frAt.hd
    · rintro j x σ H5 H5' hj hp ⟨rfl, kk, vv, ekk, rfl⟩
      rw [hW] at hp
      obtain ⟨Lx, fnd, v5, v6, v7, rfl, Sx, elx, okx, visx, hf, hfl⟩ := hp
      rw [List.getElem?_map] at ekk
      cases ee : E[j]? with
      | none => rw [ee] at ekk; cases ekk
      | some e =>
        rw [ee] at ekk
        have ekk2 : ekv e = (kk, vv) := by simpa using ekk
        unfold ekv at ekk2
        cases ekk2
        have he : e ∈ E := List.mem_of_getElem? ee
        have hj2 := (List.getElem?_eq_some_iff.mp ee).1
        show gName 6 (.int (e.1 : Int)) _ _ _
        rw [u_gName, u_tSeq]
        have hlwx := Sx.lw
        unfold lawF at hlwx
        rw [elx] at hlwx
        simp [hlwx]
        refine ⟨_, Lx, s, e.1, by rw [elx], Sx, elaw e he, fun H6 L6 x S6 el6 hx hxl v6' => ?_⟩
        have ok6 := okx.mono v6'
        have vis6 : ∀ e ∈ E, VW A ((pb, HO.frz od (.dK (E.map ekv))) :: (pf, .lst ((nums fnd).map V.int)) :: fr) L6 s.acts H6 e.2 = some (.lst ((ofL zc e.1).map fun z => V.ref z.1)) := fun e he => v6' _ _ (visx e he)
        have el6' : L6.lw = L.lw := el6.trans elx
        obtain ⟨cx, cs⟩ := S6.cr hx
        have cx' := cx
        unfold crsF at cx'
        (try dsimp only)
        rw [u_tSeq]
        unfold tDGet
        simp [cx']
        have hpb6 : H6 pb = some (.frz od (.dK (E.map ekv))) := S6.frAt.hd
        have hval : valV (E.map ekv) (kI e.1) = some (.ref e.2) := ent_val hE.nd he
        refine ⟨.ref e.2, .inl ⟨E.map ekv, kI e.1, .inr ⟨od, hpb6⟩, rfl, hval.symm⟩, ?_⟩
        have okl : ZOk A (VW A ((pb, HO.frz od (.dK (E.map ekv))) :: (pf, .lst ((nums fnd).map V.int)) :: fr) L6 s.acts H6) s (ofL zc e.1) := ok6.flt _
        refine ⟨e.2, s.acts, ofL zc e.1, rfl, wo_le _ _ (vis6 e he), okl.cf, S6.tab, fun H7 H8 p8 k7 tab7 n8 k8 t8 e8 => ?_⟩
        obtain ⟨S7, v7'⟩ := S6.ext k7 tab7
        have S8 := S7.same k8
        have ok8 := (ok6.mn v7').mono (vw_up k8)
        have okl8 := (okl.mn v7').mono (vw_up k8)
        have hin : ∀ z, z ∈ (ofL zc e.1).mergeSort zord ↔ z ∈ ofL zc e.1 := fun z => List.mem_mergeSort
        have oks : ZOk A (VW A ((pb, HO.frz od (.dK (E.map ekv))) :: (pf, .lst ((nums fnd).map V.int)) :: fr) L6 s.acts H8) s ((ofL zc e.1).mergeSort zord) := ⟨fun z m => okl8.cmd z ((hin z).mp m), fun z m => okl8.idx z ((hin z).mp m), fun z m => okl8.nov z ((hin z).mp m), by rw [List.length_mergeSort]; exact okl8.len⟩
        obtain ⟨cx8, cs8⟩ := S8.cr hx
        have hck := S8.crs x hx
        obtain ⟨pre, post, hpp⟩ := List.append_of_mem hx
        have hns : ((ofL zc e.1).mergeSort zord).map (·.2.1) = lawNs s e.1 on known := by
          rw [← lawNs_alt, ← hcm]
          have e10 : ((zc.map Prod.snd).filter fun x => decide (x.2.law = e.1)) = (ofL zc e.1).map Prod.snd := by
            rw [List.filter_map]; rfl
          rw [e10, ← List.map_mergeSort (r := zord) (s := ord) (f := Prod.snd) (by intro a _ b _; rfl), List.map_map]
          rfl
        refine ⟨x.c, x.dx, x.st, p8, x.as, ((ofL zc e.1).mergeSort zord).map Prod.fst, what s, x.ns, ((ofL zc e.1).mergeSort zord).map (·.2.1), Ms A ((pb, HO.frz od (.dK (E.map ekv))) :: (pf, .lst ((nums fnd).map V.int)) :: fr) L6 s.acts, rfl, S8.ok, StA.crM hx, cx8, cs8, hck.steps, ?_, ?_, by have := hck.len; omega, by have := oks.len; simp at this ⊢; omega, fun H9 st' as' p9 k9 n9 e9 es9 hA9 hs9 => ?_⟩
        · rw [List.map_map]; exact e8
        · exact oks.cn S8.wf
        · obtain ⟨S9, v9, v9'⟩ := S8.took hpp k9 n9 e9 es9 hA9 oks.lt (by have := oks.len; simpa using this)
          have ell : ({ L6 with crs := pre ++ { x with st := st', as := as', ns := ((ofL zc e.1).mergeSort zord).map (·.2.1) } :: post } : Lay).lw = L.lw := el6'
          have hA9' : All2 (StepAt A H9) as' (stepsOf (what s) [] (((ofL zc e.1).mergeSort zord).map (·.2.1))) := (steps_mono hA9 wo_le)
          generalize ({ L6 with crs := pre ++ { x with st := st', as := as', ns := ((ofL zc e.1).mergeSort zord).map (·.2.1) } :: post } : Lay) = Ly at *
          rw [hns] at hA9'
          have ok9 := ok8.mono v9
          have vis9 : ∀ e ∈ E, VW A ((pb, HO.frz od (.dK (E.map ekv))) :: (pf, .lst ((nums fnd).map V.int)) :: fr) Ly s.acts H9 e.2 = some (.lst ((ofL zc e.1).map fun z => V.ref z.1)) := fun e' he' => v9 _ _ (vw_up k8 _ _ (il_n v7' (vis6 e' he')))
          have nsl : (lawNs s e.1 on known).length ≤ 1024 := by
            rw [← hns]
            have := oks.len
            simpa using this
          have hpf9 : H9 pf = some (.lst ((nums fnd).map V.int)) := S9.frAt.mem (by simp)
          have e9' := e9
          unfold crsF at e9'
          (try dsimp only)
          simp [-upd_at, e9']
          refine ⟨.inl ⟨rfl, _, SqL.of hpf9⟩, ?_⟩
          refine ⟨x.c, x.dx, st', as', what s, lawNs s e.1 on known, rfl, e9, es9, hA9', by omega, fun H10 pw k10 n10 e10 => ?_⟩
          have e10' : H10 pw = some (.lst ((nums (idleOf (what s) [] (lawNs s e.1 on known))).map V.int)) := e10
          have il := @idleOf_len (what s) (lawNs s e.1 on known)
          simp [-upd_at, k10 _ _ hpf9, e10']
          refine ⟨by rw [sz]; omega, ?_⟩
          obtain ⟨S10, v10⟩ := (S9.same k10).perm (List.Perm.swap _ _ _)
          obtain ⟨S11, v11⟩ := S10.set (H' := upd H10 pf (.lst ((nums fnd).map V.int ++ (nums (idleOf (what s) [] (lawNs s e.1 on known))).map V.int))) upd_same trivial (Kp.wr (by simp))
          obtain ⟨S12, v12⟩ := S11.perm (List.Perm.swap _ _ _)
          have vt := Same.tr (vw_up k10) (Same.tr v10 (Same.tr v11 v12))
          have ef : (nums fnd).map V.int ++ (nums (idleOf (what s) [] (lawNs s e.1 on known))).map V.int = (nums (fnd ++ idleOf (what s) [] (lawNs s e.1 on known))).map V.int := by rw [nums_app, List.map_append]
          rw [ef] at S12 vt ⊢
          rw [hW]
          refine ⟨Ly, fnd ++ idleOf (what s) [] (lawNs s e.1 on known), v5, some (.int (e.1 : Nat)), some (.ref x.c), rfl, S12, ell, ok9.mono vt, fun e' he' => vt _ _ (vis9 e' he'), ?_, ?_⟩
          · rw [hf, List.take_add_one, ee]
            simp
          · rw [List.length_append]
            omega
    · intro σ H5 hp
      rw [hW] at hp
      obtain ⟨Lx, fnd, v5, v6, v7, rfl, Sx, elx, okx, visx, hf, hfl⟩ := hp
      rw [List.length_map, List.take_length] at hf
      refine ⟨Sx.frAt.hd, ?_⟩
      obtain ⟨Sy, vy⟩ := Sx.set (H' := upd H5 pb (.dK (E.map ekv))) upd_same trivial (Kp.wr (by simp))
      generalize upd H5 pb (.dK (E.map ekv)) = Hy at *
      have hpf : Hy pf = some (.lst ((nums fnd).map V.int)) := Sy.frAt.mem (by simp)
      have Sz := Sy.drop.1.drop.1
      simp
      refine ⟨pf, nums fnd, rfl, SqL.of hpf, fun ns' p4 hperm hsort n4 => ?_⟩
      obtain ⟨out, rfl, hout⟩ := perm_nums hperm
      have hid2 : Kcs5.idle s on known = out := by
        refine idle_of (es := E.map Prod.fst) hE.nd (fun n hn => ?_) (fun n hn => ?_) ?_ ?_
        · rw [List.mem_map] at hn
          obtain ⟨e, he, rfl⟩ := hn
          exact elaw e he
        · rw [← lawNs_alt, ← hcm]
          have : ((zc.map Prod.snd).filter fun x => decide (x.2.law = n)) = [] := by
            rw [List.filter_eq_nil_iff]
            intro x hx e
            rw [List.mem_map] at hx
            obtain ⟨z, hz, rfl⟩ := hx
            have : z.2.2.law = n := by simpa using e
            exact hn (this ▸ hE.mem z hz)
          rw [this]
          simp
        · rw [hf] at hout
          rw [List.flatMap_map]
          exact hout
        · simp only [Kcs5Neutral.nums, List.pairwise_map] at hsort
          exact hsort.imp fun h => by omega
      have up : Same Hy (upd Hy p4 (.lst ((nums out).map V.int))) := fun b o e => (upd_ne (ne_of_none e n4)).trans e
      refine q _ Lx p4 ?_ elx
      rw [hid2]
      exact (Sz.add n4 up upd_same trivial).1
end
end LD

namespace LD
open PySem PySem.Spec PyProof.Rows L2
/-! ### book.py -/
def sp_tell_idle (A : Ad) : Sp := fun vs H Q _ => ∃ (fr : Cells) (L : Lay) (s : Kcs5.Abs) (on known : Nat), vs = [.ref L.lw, .int (on : Nat), .int (known : Nat)] ∧ StA A fr L s H ∧ Ans A fr L s Q (ansOf s (.idle on known))
/-- the reader, its place -/
def rdO (A : Ad) (dx p : Addr) (i : Nat) : HO := .ins A.c_Reader dx [("numbers", .ref p), ("place", .int (i : Nat))]
/-- the object and the reader, which stands at i; rest is left -/
def Wd (K : PySem.W.Frag) (A : Ad) (fr : Cells) (L : Lay) (s : Kcs5.Abs) (rd p : Addr) (ns : List Int) (i : Nat) (rest : List Int) (H : Hp) : Prop :=
  ∃ dx, StA A ((rd, rdO A dx p i) :: fr) L s H ∧ (∀ H', At fr H' → SqL K H' p (ns.map V.int)) ∧ i ≤ ns.length ∧ ns.drop i = rest
/-- the view, whatever the reader's place -/
abbrev VR (A : Ad) (fr : Cells) (L : Lay) (acts : List Nat) (rd : Addr) (H : Hp) : Hp := VW A ((rd, .own rd) :: fr) L acts H
def AnsW (A : Ad) (fr : Cells) (lw rd p : Addr) (i : Nat) (Q : VK) (s' : Kcs5.Abs) (a : List Int) : Prop := ∀ H' L' q dx, StA A ((q, .lst (a.map V.int)) :: (rd, rdO A dx p i) :: fr) L' s' H' → L'.lw = lw → Q (.ref q) H'
section
variable {K : PySem.W.Frag} {mg : Str → Option Value} {A : Ad} {fr : Cells} {L : Lay} {s : Kcs5.Abs} {rd p : Addr} {ns : List Int} {i : Nat} {rest : List Int} {H : Hp} {Q : VK} {E : XK}
theorem wo_new' {M : List Addr} {H H' : Hp} {l : Addr} {o : HO} (ok : Ok M H) (n : H l = none) (e : H' l = some o) : wo H' M l = some o := by
  rw [wo_out (fun m => ok l m n)]; exact e
theorem Wd.rs (h : Wd K A fr L s rd p ns i rest H) : RS K A H rd p ns i rest := by
  obtain ⟨dx, S, hq, hl, e⟩ := h
  exact ⟨⟨dx, S.frAt.hd⟩, hq _ S.frAt.tl, hl, e⟩
theorem Wd.step {H' : Hp} {j : Nat} {rest' : List Int} (h : Wd K A fr L s rd p ns i rest H) (r : RS K A H' rd p ns j rest') (k : Kp [rd] H H') : Wd K A fr L s rd p ns j rest' H' ∧ Same (VR A fr L s.acts rd H) (VR A fr L s.acts rd H') := by
  obtain ⟨dx, S, hq, hl, e⟩ := h
  obtain ⟨dx', er⟩ := r.r
  obtain ⟨S', v⟩ := S.set (o' := rdO A dx' p j) er trivial k
  exact ⟨⟨dx', S', hq, r.le, r.e⟩, v⟩
theorem Wd.num {v : Int} (h : Wd K A fr L s rd p ns i (v :: rest) H) (q : ∀ H', Wd K A fr L s rd p ns (i + 1) rest H' → Same (VR A fr L s.acts rd H) (VR A fr L s.acts rd H') → Q (.int v) H') : sp_Reader_next_number K A [.ref rd] H Q E :=
  nn h.rs fun H' r f => by
    obtain ⟨w, v⟩ := h.step r (fun b o nb e => (f b (by simpa using nb)).trans e)
    exact q H' w v
theorem Wd.row {row : List Int} (h : Wd K A fr L s rd p ns i (PyFlat.putRow row ++ rest) H) (q : ∀ H' l, Wd K A fr L s rd p ns (i + 1 + row.length) rest H' → Same (VR A fr L s.acts rd H) (VR A fr L s.acts rd H') → IL (VR A fr L s.acts rd H') l row → Q (.ref l) H') : sp_Reader_next_row K A [.ref rd] H Q E :=
  nr h.rs fun H' l nl el r f => by
    obtain ⟨w, v⟩ := h.step r (fun b o nb e => (f b (by simpa using nb) (ne_of_none e nl)).trans e)
    refine q H' l w v ?_
    obtain ⟨dx, S, _⟩ := h
    exact wo_new' S.ok nl el
theorem Wd.rdI (h : Wd K A fr L s rd p ns i rest H) : ∃ dx, H rd = some (.ins A.c_Reader dx [("numbers", .ref p), ("place", .int (i : Nat))]) := by
  obtain ⟨dx, S, _⟩ := h
  exact ⟨dx, S.frAt.hd⟩
end
end LD

namespace LD
open PySem PySem.Spec PyProof.Rows L2
/-- the calls, as they are told -/
inductive CallForm : List (List Int) → Kcs5.Call → Prop
  | begin_ : CallForm [[0]] .begin_
  | act (d : Nat) : CallForm [[1, (d : Int)]] (.act d)
  | put (law f u : Nat) (a l t : List Nat) : CallForm [[2, (law : Int), (f : Int), (u : Int)], nums a, nums l, nums t] (.put law a l t f u)
  | take (law f u : Nat) (l : List Nat) : CallForm [[3, (law : Int), (f : Int), (u : Int)], nums l] (.take law l f u)
  | text (law f u : Nat) (l t : List Nat) : CallForm [[4, (law : Int), (f : Int), (u : Int)], nums l, nums t] (.text law l t f u)
  | word (law f u : Nat) (l o t : List Nat) : CallForm [[5, (law : Int), (f : Int), (u : Int)], nums l, nums o, nums t] (.word law l o t f u)
  | name (law g f u : Nat) (l o : List Nat) : CallForm [[6, (law : Int), (g : Int), (f : Int), (u : Int)], nums l, nums o] (.name law l o g f u)
  | void (n : Nat) : CallForm [[7, (n : Int)]] (.void n)
  | read (law d k : Nat) (l : List Nat) : CallForm [[8, (law : Int), (d : Int), (k : Int)], nums l] (.read law l d k)
  | labels (law d k : Nat) : CallForm [[9, (law : Int), (d : Int), (k : Int)]] (.labels law d k)
  | origin (law d k : Nat) (l : List Nat) : CallForm [[10, (law : Int), (d : Int), (k : Int)], nums l] (.origin law l d k)
  | idle (d k : Nat) : CallForm [[11, (d : Int), (k : Int)]] (.idle d k)
  | broken (law d k n : Nat) : CallForm [[12, (law : Int), (d : Int), (k : Int), (n : Int)]] (.broken law d k n)
  | next (law d k : Nat) (l : List Nat) : CallForm [[13, (law : Int), (d : Int), (k : Int)], nums l] (.next law l d k)
theorem len1 {α : Type} {l : List α} (h : l.length = 1) : ∃ a, l = [a] := List.length_eq_one_iff.mp h
theorem len2 {α : Type} {l : List α} (h : l.length = 2) : ∃ a b, l = [a, b] := by
  match l, h with
  | [a, b], _ => exact ⟨a, b, rfl⟩
theorem len3 {α : Type} {l : List α} (h : l.length = 3) : ∃ a b c, l = [a, b, c] := by
  match l, h with
  | [a, b, c], _ => exact ⟨a, b, c, rfl⟩
theorem len4 {α : Type} {l : List α} (h : l.length = 4) : ∃ a b c d, l = [a, b, c, d] := by
  match l, h with
  | [a, b, c, d], _ => exact ⟨a, b, c, d, rfl⟩
theorem row_nums {r : List Int} (h : ∀ x ∈ r, 0 ≤ x) : ∃ l : List Nat, r = nums l := by
  refine ⟨r.map Int.toNat, ?_⟩
  show r = (r.map Int.toNat).map fun (x : Nat) => (x : Int)
  rw [List.map_map]
  conv => lhs; rw [← List.map_id r]
  apply List.map_congr_left
  intro x hx
  have := h x hx
  simp
  omega
theorem nums_nat {l : List Nat} : (nums l).map Int.toNat = l := by simp [Kcs5Neutral.nums, Function.comp_def]
theorem call_form {c : List (List Int)} (ok : PyFlat.okCall PyKcs5.shape c) (nn : ∀ x ∈ PyFlat.put1 c, 0 ≤ x) : ∃ k, CallForm c k := by
  obtain ⟨p, a, xs, rfl, hsh⟩ := ok
  simp only [PyFlat.put1, List.cons_append, List.mem_cons, List.mem_append, forall_eq_or_imp] at nn
  obtain ⟨_, nn⟩ := nn
  unfold PyKcs5.shape at hsh
  by_cases h0 : p = 0
  · subst h0
    have e : (some (_, _) : Option (Nat × Nat)) = some (a.length, xs.length) := hsh
    have ea := (Prod.mk.inj (Option.some.inj e)).1
    have ex := (Prod.mk.inj (Option.some.inj e)).2
    have ha := List.length_eq_zero_iff.mp ea.symm
    have hx := List.length_eq_zero_iff.mp ex.symm
    subst ha hx
    exact ⟨_, .begin_⟩
  rw [if_neg h0] at hsh
  by_cases h1 : p = 1
  · subst h1
    have e : (some (_, _) : Option (Nat × Nat)) = some (a.length, xs.length) := hsh
    have ea := (Prod.mk.inj (Option.some.inj e)).1
    have ex := (Prod.mk.inj (Option.some.inj e)).2
    obtain ⟨x0, rfl⟩ := len1 ea.symm
    have hx := List.length_eq_zero_iff.mp ex.symm
    subst hx
    obtain ⟨d, rfl⟩ := Int.eq_ofNat_of_zero_le (nn x0 (by simp))
    exact ⟨_, .act d⟩
  rw [if_neg h1] at hsh
  by_cases h2 : p = 2
  · subst h2
    have e : (some (_, _) : Option (Nat × Nat)) = some (a.length, xs.length) := hsh
    have ea := (Prod.mk.inj (Option.some.inj e)).1
    have ex := (Prod.mk.inj (Option.some.inj e)).2
    obtain ⟨x0, x1, x2, rfl⟩ := len3 ea.symm
    obtain ⟨r0, r1, r2, rfl⟩ := len3 ex.symm
    obtain ⟨d0, rfl⟩ := Int.eq_ofNat_of_zero_le (nn x0 (by simp))
    obtain ⟨d1, rfl⟩ := Int.eq_ofNat_of_zero_le (nn x1 (by simp))
    obtain ⟨d2, rfl⟩ := Int.eq_ofNat_of_zero_le (nn x2 (by simp))
    obtain ⟨l0, rfl⟩ := row_nums (r := r0) fun x hx => nn x (by simp [PyFlat.putRows, PyFlat.putRow, hx])
    obtain ⟨l1, rfl⟩ := row_nums (r := r1) fun x hx => nn x (by simp [PyFlat.putRows, PyFlat.putRow, hx])
    obtain ⟨l2, rfl⟩ := row_nums (r := r2) fun x hx => nn x (by simp [PyFlat.putRows, PyFlat.putRow, hx])
    exact ⟨_, .put d0 d1 d2 l0 l1 l2⟩
  rw [if_neg h2] at hsh
  by_cases h3 : p = 3
  · subst h3
    have e : (some (_, _) : Option (Nat × Nat)) = some (a.length, xs.length) := hsh
    have ea := (Prod.mk.inj (Option.some.inj e)).1
    have ex := (Prod.mk.inj (Option.some.inj e)).2
    obtain ⟨x0, x1, x2, rfl⟩ := len3 ea.symm
    obtain ⟨r0, rfl⟩ := len1 ex.symm
    obtain ⟨d0, rfl⟩ := Int.eq_ofNat_of_zero_le (nn x0 (by simp))
    obtain ⟨d1, rfl⟩ := Int.eq_ofNat_of_zero_le (nn x1 (by simp))
    obtain ⟨d2, rfl⟩ := Int.eq_ofNat_of_zero_le (nn x2 (by simp))
    obtain ⟨l0, rfl⟩ := row_nums (r := r0) fun x hx => nn x (by simp [PyFlat.putRows, PyFlat.putRow, hx])
    exact ⟨_, .take d0 d1 d2 l0⟩
  rw [if_neg h3] at hsh
  by_cases h4 : p = 4
  · subst h4
    have e : (some (_, _) : Option (Nat × Nat)) = some (a.length, xs.length) := hsh
    have ea := (Prod.mk.inj (Option.some.inj e)).1
    have ex := (Prod.mk.inj (Option.some.inj e)).2
    obtain ⟨x0, x1, x2, rfl⟩ := len3 ea.symm
    obtain ⟨r0, r1, rfl⟩ := len2 ex.symm
    obtain ⟨d0, rfl⟩ := Int.eq_ofNat_of_zero_le (nn x0 (by simp))
    obtain ⟨d1, rfl⟩ := Int.eq_ofNat_of_zero_le (nn x1 (by simp))
    obtain ⟨d2, rfl⟩ := Int.eq_ofNat_of_zero_le (nn x2 (by simp))
    obtain ⟨l0, rfl⟩ := row_nums (r := r0) fun x hx => nn x (by simp [PyFlat.putRows, PyFlat.putRow, hx])
    obtain ⟨l1, rfl⟩ := row_nums (r := r1) fun x hx => nn x (by simp [PyFlat.putRows, PyFlat.putRow, hx])
    exact ⟨_, .text d0 d1 d2 l0 l1⟩
  rw [if_neg h4] at hsh
  by_cases h5 : p = 5
  · subst h5
    have e : (some (_, _) : Option (Nat × Nat)) = some (a.length, xs.length) := hsh
    have ea := (Prod.mk.inj (Option.some.inj e)).1
    have ex := (Prod.mk.inj (Option.some.inj e)).2
    obtain ⟨x0, x1, x2, rfl⟩ := len3 ea.symm
    obtain ⟨r0, r1, r2, rfl⟩ := len3 ex.symm
    obtain ⟨d0, rfl⟩ := Int.eq_ofNat_of_zero_le (nn x0 (by simp))
    obtain ⟨d1, rfl⟩ := Int.eq_ofNat_of_zero_le (nn x1 (by simp))
    obtain ⟨d2, rfl⟩ := Int.eq_ofNat_of_zero_le (nn x2 (by simp))
    obtain ⟨l0, rfl⟩ := row_nums (r := r0) fun x hx => nn x (by simp [PyFlat.putRows, PyFlat.putRow, hx])
    obtain ⟨l1, rfl⟩ := row_nums (r := r1) fun x hx => nn x (by simp [PyFlat.putRows, PyFlat.putRow, hx])
    obtain ⟨l2, rfl⟩ := row_nums (r := r2) fun x hx => nn x (by simp [PyFlat.putRows, PyFlat.putRow, hx])
    exact ⟨_, .word d0 d1 d2 l0 l1 l2⟩
  rw [if_neg h5] at hsh
  by_cases h6 : p = 6
  · subst h6
    have e : (some (_, _) : Option (Nat × Nat)) = some (a.length, xs.length) := hsh
    have ea := (Prod.mk.inj (Option.some.inj e)).1
    have ex := (Prod.mk.inj (Option.some.inj e)).2
    obtain ⟨x0, x1, x2, x3, rfl⟩ := len4 ea.symm
    obtain ⟨r0, r1, rfl⟩ := len2 ex.symm
    obtain ⟨d0, rfl⟩ := Int.eq_ofNat_of_zero_le (nn x0 (by simp))
    obtain ⟨d1, rfl⟩ := Int.eq_ofNat_of_zero_le (nn x1 (by simp))
    obtain ⟨d2, rfl⟩ := Int.eq_ofNat_of_zero_le (nn x2 (by simp))
    obtain ⟨d3, rfl⟩ := Int.eq_ofNat_of_zero_le (nn x3 (by simp))
    obtain ⟨l0, rfl⟩ := row_nums (r := r0) fun x hx => nn x (by simp [PyFlat.putRows, PyFlat.putRow, hx])
    obtain ⟨l1, rfl⟩ := row_nums (r := r1) fun x hx => nn x (by simp [PyFlat.putRows, PyFlat.putRow, hx])
    exact ⟨_, .name d0 d1 d2 d3 l0 l1⟩
  rw [if_neg h6] at hsh
  by_cases h7 : p = 7
  · subst h7
    have e : (some (_, _) : Option (Nat × Nat)) = some (a.length, xs.length) := hsh
    have ea := (Prod.mk.inj (Option.some.inj e)).1
    have ex := (Prod.mk.inj (Option.some.inj e)).2
    obtain ⟨x0, rfl⟩ := len1 ea.symm
    have hx := List.length_eq_zero_iff.mp ex.symm
    subst hx
    obtain ⟨d, rfl⟩ := Int.eq_ofNat_of_zero_le (nn x0 (by simp))
    exact ⟨_, .void d⟩
  rw [if_neg h7] at hsh
  by_cases h8 : p = 8
  · subst h8
    have e : (some (_, _) : Option (Nat × Nat)) = some (a.length, xs.length) := hsh
    have ea := (Prod.mk.inj (Option.some.inj e)).1
    have ex := (Prod.mk.inj (Option.some.inj e)).2
    obtain ⟨x0, x1, x2, rfl⟩ := len3 ea.symm
    obtain ⟨r0, rfl⟩ := len1 ex.symm
    obtain ⟨d0, rfl⟩ := Int.eq_ofNat_of_zero_le (nn x0 (by simp))
    obtain ⟨d1, rfl⟩ := Int.eq_ofNat_of_zero_le (nn x1 (by simp))
    obtain ⟨d2, rfl⟩ := Int.eq_ofNat_of_zero_le (nn x2 (by simp))
    obtain ⟨l0, rfl⟩ := row_nums (r := r0) fun x hx => nn x (by simp [PyFlat.putRows, PyFlat.putRow, hx])
    exact ⟨_, .read d0 d1 d2 l0⟩
  rw [if_neg h8] at hsh
  by_cases h9 : p = 9
  · subst h9
    have e : (some (_, _) : Option (Nat × Nat)) = some (a.length, xs.length) := hsh
    have ea := (Prod.mk.inj (Option.some.inj e)).1
    have ex := (Prod.mk.inj (Option.some.inj e)).2
    obtain ⟨x0, x1, x2, rfl⟩ := len3 ea.symm
    have hx := List.length_eq_zero_iff.mp ex.symm
    subst hx
    obtain ⟨d0, rfl⟩ := Int.eq_ofNat_of_zero_le (nn x0 (by simp))
    obtain ⟨d1, rfl⟩ := Int.eq_ofNat_of_zero_le (nn x1 (by simp))
    obtain ⟨d2, rfl⟩ := Int.eq_ofNat_of_zero_le (nn x2 (by simp))
    exact ⟨_, .labels d0 d1 d2⟩
  rw [if_neg h9] at hsh
  by_cases h10 : p = 10
  · subst h10
    have e : (some (_, _) : Option (Nat × Nat)) = some (a.length, xs.length) := hsh
    have ea := (Prod.mk.inj (Option.some.inj e)).1
    have ex := (Prod.mk.inj (Option.some.inj e)).2
    obtain ⟨x0, x1, x2, rfl⟩ := len3 ea.symm
    obtain ⟨r0, rfl⟩ := len1 ex.symm
    obtain ⟨d0, rfl⟩ := Int.eq_ofNat_of_zero_le (nn x0 (by simp))
    obtain ⟨d1, rfl⟩ := Int.eq_ofNat_of_zero_le (nn x1 (by simp))
    obtain ⟨d2, rfl⟩ := Int.eq_ofNat_of_zero_le (nn x2 (by simp))
    obtain ⟨l0, rfl⟩ := row_nums (r := r0) fun x hx => nn x (by simp [PyFlat.putRows, PyFlat.putRow, hx])
    exact ⟨_, .origin d0 d1 d2 l0⟩
  rw [if_neg h10] at hsh
  by_cases h11 : p = 11
  · subst h11
    have e : (some (_, _) : Option (Nat × Nat)) = some (a.length, xs.length) := hsh
    have ea := (Prod.mk.inj (Option.some.inj e)).1
    have ex := (Prod.mk.inj (Option.some.inj e)).2
    obtain ⟨x0, x1, rfl⟩ := len2 ea.symm
    have hx := List.length_eq_zero_iff.mp ex.symm
    subst hx
    obtain ⟨d0, rfl⟩ := Int.eq_ofNat_of_zero_le (nn x0 (by simp))
    obtain ⟨d1, rfl⟩ := Int.eq_ofNat_of_zero_le (nn x1 (by simp))
    exact ⟨_, .idle d0 d1⟩
  rw [if_neg h11] at hsh
  by_cases h12 : p = 12
  · subst h12
    have e : (some (_, _) : Option (Nat × Nat)) = some (a.length, xs.length) := hsh
    have ea := (Prod.mk.inj (Option.some.inj e)).1
    have ex := (Prod.mk.inj (Option.some.inj e)).2
    obtain ⟨x0, x1, x2, x3, rfl⟩ := len4 ea.symm
    have hx := List.length_eq_zero_iff.mp ex.symm
    subst hx
    obtain ⟨d0, rfl⟩ := Int.eq_ofNat_of_zero_le (nn x0 (by simp))
    obtain ⟨d1, rfl⟩ := Int.eq_ofNat_of_zero_le (nn x1 (by simp))
    obtain ⟨d2, rfl⟩ := Int.eq_ofNat_of_zero_le (nn x2 (by simp))
    obtain ⟨d3, rfl⟩ := Int.eq_ofNat_of_zero_le (nn x3 (by simp))
    exact ⟨_, .broken d0 d1 d2 d3⟩
  rw [if_neg h12] at hsh
  by_cases h13 : p = 13
  · subst h13
    have e : (some (_, _) : Option (Nat × Nat)) = some (a.length, xs.length) := hsh
    have ea := (Prod.mk.inj (Option.some.inj e)).1
    have ex := (Prod.mk.inj (Option.some.inj e)).2
    obtain ⟨x0, x1, x2, rfl⟩ := len3 ea.symm
    obtain ⟨r0, rfl⟩ := len1 ex.symm
    obtain ⟨d0, rfl⟩ := Int.eq_ofNat_of_zero_le (nn x0 (by simp))
    obtain ⟨d1, rfl⟩ := Int.eq_ofNat_of_zero_le (nn x1 (by simp))
    obtain ⟨d2, rfl⟩ := Int.eq_ofNat_of_zero_le (nn x2 (by simp))
    obtain ⟨l0, rfl⟩ := row_nums (r := r0) fun x hx => nn x (by simp [PyFlat.putRows, PyFlat.putRow, hx])
    exact ⟨_, .next d0 d1 d2 l0⟩
  rw [if_neg h13] at hsh
  cases hsh
theorem call_step {c : List (List Int)} {k : Kcs5.Call} (h : CallForm c k) (s : Kcs5.Abs) : stp s c = ((Kcs5.step s k).1, ansOf s k) := by
  have e : Kcs5Neutral.call (PyKcs5.whole c) = k := by
    cases h <;> simp [PyKcs5.whole, Kcs5Neutral.call, Kcs5Neutral.n, Kcs5Neutral.i, Kcs5Neutral.m, Kcs5Neutral.r, nums_nat]
  unfold stp Kcs5Neutral.step ansOf
  rw [e]
end LD

namespace LD
open PySem PySem.Spec PyProof.Rows L2
def sp_answer_of_law (K : PySem.W.Frag) (A : Ad) : Sp := fun vs H Q _ => ∃ (fr : Cells) (L : Lay) (s : Kcs5.Abs) (rd p : Addr) (ns : List Int) (i : Nat) (pn : Int) (nms rest : List Int) (rows : List (List Int)) (k : Kcs5.Call), vs = [.ref L.lw, .int pn, .ref rd] ∧ Wd K A fr L s rd p ns i (nms ++ PyFlat.putRows rows ++ rest) H ∧
  CallForm ((pn :: nms) :: rows) k ∧ (pn = 8 ∨ pn = 9 ∨ pn = 10 ∨ pn = 12 ∨ pn = 13) ∧ AnsW A fr L.lw rd p (i + (nms ++ PyFlat.putRows rows).length) Q s (ansOf s k)
section
variable {K : PySem.W.Frag} {mg : Str → Option Value} {A : Ad}
theorem pure_tell_idle (T : Txt K mg A) (vs : List V) (H : Hp) (Q : VK) (E : XK) (h : sp_tell_idle A vs H Q E) : t_tell_idle K A (sp_Laws_without_effect A) sp_is_day { nx := fun _ H' => Q .non H', rt := Q } (L2.start ["laws", "on", "known"] vs) H := by
  obtain ⟨fr, L, s, on, known, rfl, hS, q⟩ := h
  have hbad : Kcs5.fair 0 on known = false → Ans A fr L s Q [-1] := fun hb => by
    have e : ansOf s (.idle on known) = [-1] := by
      simp only [ansOf, Kcs5.step]
      rw [if_pos hb]
      rfl
    rw [e] at q; exact q
  have hgood : Kcs5.fair 0 on known = true → Ans A fr L s Q (0 :: nums (Kcs5.idle s on known)) := fun hb => by
    have e : ansOf s (.idle on known) = 0 :: nums (Kcs5.idle s on known) := by
      simp only [ansOf, Kcs5.step]
      rw [if_neg (by rw [hb]; simp)]
      rfl
    rw [e] at q; exact q
  have hfair : Kcs5.fair 0 on known = (decide (on ≤ 1048576) && decide (known ≤ 1048576)) := by
    unfold Kcs5.fair Kcs5.LAWS Kcs5.DAYS
    simp
  rw [hfair] at hbad hgood
  rw [t_tell_idle, u_tSeq]
  simp [L2.start, sp_is_day]
  by_cases h1 : on ≤ 1048576
  · rw [if_pos (by omega)]
    by_cases h2 : known ≤ 1048576
    · rw [if_pos (by omega)]
      refine ⟨(by show 1 ≤ sizeLine; decide), alloc_new fun p0 H1 n1 e1 k1 => ?_⟩
      obtain ⟨S1, _⟩ := hS.add n1 k1 e1 trivial
      have hlw := S1.lw
      unfold lawF at hlw
      simp [hlw]
      refine ⟨_, L, s, on, known, rfl, S1, fun H2 L2 q2 S2 el => ?_⟩
      have e2 : H2 q2 = some (.lst ((nums (Kcs5.idle s on known)).map V.int)) := S2.frAt.hd
      have e0 : H2 p0 = some (.lst [.int 0]) := S2.frAt.mem (by simp)
      simp [e2, e0]
      refine ⟨?_, ?_⟩
      · have hl : (Kcs5.idle s on known).length ≤ 64 * 1024 := by
          rw [idle_eq, List.length_mergeSort]
          have : ∀ l : List Nat, (l.flatMap fun law => (idleOf (what s) [] (lawNs s law on known)).reverse).length ≤ l.length * 1024 := by
            intro l
            induction l with
            | nil => simp
            | cons x r ih =>
              rw [List.flatMap_cons, List.length_append, List.length_reverse, List.length_cons]
              have h3 := @idleOf_len (what s) (lawNs s x on known)
              have h4 : (lawNs s x on known).length ≤ 1024 := by
                unfold lawNs
                rw [List.length_map]
                refine Nat.le_trans (List.length_filter_le _ _) (Nat.le_trans (ofLaw_len s x known) hS.wf.many)
              omega
          have h5 := this (List.range 64)
          simpa using h5
        rw [sz]; omega
      · refine ans_new' (hgood (by simp [h1, h2])) S2.drop.1.drop.1 el ?_
        simp
    · rw [if_neg (by omega)]
      exact ⟨(by show 1 ≤ sizeLine; decide), ans_new' (hbad (by simp [h2])) hS rfl rfl⟩
  · rw [if_neg (by omega)]
    exact ⟨(by show 1 ≤ sizeLine; decide), ans_new' (hbad (by simp [h1])) hS rfl rfl⟩
/-- from an answer of the object alone -/
theorem ans_w {fr : Cells} {L : Lay} {s : Kcs5.Abs} {rd p dx : Addr} {i j : Nat} {Q : VK} {a : List Int} (q : AnsW A fr L.lw rd p j Q s a) (e : i = j) : Ans A ((rd, rdO A dx p i) :: fr) L s Q a := fun H' L' q' S el => by
  subst e
  exact q H' L' q' dx S el
theorem pure_answer_of_law (T : Txt K mg A) (vs : List V) (H : Hp) (Q : VK) (E : XK) (h : sp_answer_of_law K A vs H Q E) : t_answer_of_law K A (sp_Reader_next_number K A) (sp_Reader_next_row K A) (sp_tell_broken A) (sp_tell_labels A) (sp_tell_next A) (sp_tell_origin A) (sp_tell_read A) { nx := fun _ H' => Q .non H', rt := Q } (L2.start ["laws", "call", "reader", "law", "on", "known", "label"] vs) H := by
  obtain ⟨fr, L, s, rd, p, ns, i, pn, nms, rest, rows, k, rfl, hw, hf, hpn, q⟩ := h
  -- three numbers are read first
  have three : ∀ (law on known : Nat) (more : List Int), Wd K A fr L s rd p ns i ((law : Int) :: (on : Int) :: (known : Int) :: more) H → (∀ H', Wd K A fr L s rd p ns (i + 3) more H' →
      (tSeq (tIfS (tTest (tOp rEq (tVar 1) (tC (.int (9))))) (tRet (tCall (sp_tell_labels A) [] E0 (tCons (tVar 0) (tCons (tVar 3) (tCons (tVar 4) (tCons (tVar 5) tNil)))))) tNext)
    (tSeq (tIfS (tTest (tOp rEq (tVar 1) (tC (.int (12))))) (tRet (tCall (sp_tell_broken A) [] E0 (tCons (tVar 0) (tCons (tVar 3) (tCons (tVar 4) (tCons (tVar 5) (tCons (tMeth A.c_Reader "next_number" (sp_Reader_next_number K A) [] E0 (tVar 2) tNil) tNil))))))) tNext)
    (tSeq (tAsg (tMeth A.c_Reader "next_row" (sp_Reader_next_row K A) [] E0 (tVar 2) tNil) (gName 6))
    (tSeq (tIfS (tTest (tOp rEq (tVar 1) (tC (.int (8))))) (tRet (tCall (sp_tell_read A) [] E0 (tCons (tVar 0) (tCons (tVar 3) (tCons (tVar 6) (tCons (tVar 4) (tCons (tVar 5) tNil))))))) tNext)
    (tSeq (tIfS (tTest (tOp rEq (tVar 1) (tC (.int (10))))) (tRet (tCall (sp_tell_origin A) [] E0 (tCons (tVar 0) (tCons (tVar 3) (tCons (tVar 6) (tCons (tVar 4) (tCons (tVar 5) tNil))))))) tNext)
    (tRet (tCall (sp_tell_next A) [] E0 (tCons (tVar 0) (tCons (tVar 3) (tCons (tVar 6) (tCons (tVar 4) (tCons (tVar 5) tNil)))))))))))) { nx := fun _ H' => Q .non H', rt := Q } [some (.ref L.lw), some (.int pn), some (.ref rd), some (.int (law : Nat)), some (.int (on : Nat)), some (.int (known : Nat)), none] H') →
      t_answer_of_law K A (sp_Reader_next_number K A) (sp_Reader_next_row K A) (sp_tell_broken A) (sp_tell_labels A) (sp_tell_next A) (sp_tell_origin A) (sp_tell_read A) { nx := fun _ H' => Q .non H', rt := Q } (L2.start ["laws", "call", "reader", "law", "on", "known", "label"] [.ref L.lw, .int pn, .ref rd]) H := by
    intro law on known more w1 go
    obtain ⟨d1, r1⟩ := w1.rdI
    rw [t_answer_of_law, u_tSeq]
    simp [L2.start, r1]
    refine w1.num fun H2 w2 _ => ?_
    obtain ⟨d2, r2⟩ := w2.rdI
    (try dsimp only)
    rw [u_tSeq]
    simp [r2]
    refine w2.num fun H3 w3 _ => ?_
    obtain ⟨d3, r3⟩ := w3.rdI
    (try dsimp only)
    rw [u_tSeq]
    simp [r3]
    refine w3.num fun H4 w4 _ => ?_
    exact go H4 w4
  -- .. and a row
  have row : ∀ (law on known : Nat) (l : List Nat) (H' : Hp), pn = 8 ∨ pn = 10 ∨ pn = 13 → Wd K A fr L s rd p ns (i + 3) (PyFlat.putRow (nums l) ++ rest) H' → (∀ H2 la dx, StA A ((rd, rdO A dx p (i + 3 + 1 + l.length)) :: fr) L s H2 → IL (VR A fr L s.acts rd H2) la (nums l) →
      (tSeq (tIfS (tTest (tOp rEq (tVar 1) (tC (.int (8))))) (tRet (tCall (sp_tell_read A) [] E0 (tCons (tVar 0) (tCons (tVar 3) (tCons (tVar 6) (tCons (tVar 4) (tCons (tVar 5) tNil))))))) tNext)
    (tSeq (tIfS (tTest (tOp rEq (tVar 1) (tC (.int (10))))) (tRet (tCall (sp_tell_origin A) [] E0 (tCons (tVar 0) (tCons (tVar 3) (tCons (tVar 6) (tCons (tVar 4) (tCons (tVar 5) tNil))))))) tNext)
    (tRet (tCall (sp_tell_next A) [] E0 (tCons (tVar 0) (tCons (tVar 3) (tCons (tVar 6) (tCons (tVar 4) (tCons (tVar 5) tNil))))))))) { nx := fun _ H' => Q .non H', rt := Q } [some (.ref L.lw), some (.int pn), some (.ref rd), some (.int (law : Nat)), some (.int (on : Nat)), some (.int (known : Nat)), some (.ref la)] H2) →
      (tSeq (tIfS (tTest (tOp rEq (tVar 1) (tC (.int (9))))) (tRet (tCall (sp_tell_labels A) [] E0 (tCons (tVar 0) (tCons (tVar 3) (tCons (tVar 4) (tCons (tVar 5) tNil)))))) tNext)
    (tSeq (tIfS (tTest (tOp rEq (tVar 1) (tC (.int (12))))) (tRet (tCall (sp_tell_broken A) [] E0 (tCons (tVar 0) (tCons (tVar 3) (tCons (tVar 4) (tCons (tVar 5) (tCons (tMeth A.c_Reader "next_number" (sp_Reader_next_number K A) [] E0 (tVar 2) tNil) tNil))))))) tNext)
    (tSeq (tAsg (tMeth A.c_Reader "next_row" (sp_Reader_next_row K A) [] E0 (tVar 2) tNil) (gName 6))
    (tSeq (tIfS (tTest (tOp rEq (tVar 1) (tC (.int (8))))) (tRet (tCall (sp_tell_read A) [] E0 (tCons (tVar 0) (tCons (tVar 3) (tCons (tVar 6) (tCons (tVar 4) (tCons (tVar 5) tNil))))))) tNext)
    (tSeq (tIfS (tTest (tOp rEq (tVar 1) (tC (.int (10))))) (tRet (tCall (sp_tell_origin A) [] E0 (tCons (tVar 0) (tCons (tVar 3) (tCons (tVar 6) (tCons (tVar 4) (tCons (tVar 5) tNil))))))) tNext)
    (tRet (tCall (sp_tell_next A) [] E0 (tCons (tVar 0) (tCons (tVar 3) (tCons (tVar 6) (tCons (tVar 4) (tCons (tVar 5) tNil)))))))))))) { nx := fun _ H' => Q .non H', rt := Q } [some (.ref L.lw), some (.int pn), some (.ref rd), some (.int (law : Nat)), some (.int (on : Nat)), some (.int (known : Nat)), none] H' := by
    intro law on known l H' hp w go
    obtain ⟨d1, r1⟩ := w.rdI
    rw [u_tSeq]
    have n9 : ¬ pn = 9 := by omega
    have n12 : ¬ pn = 12 := by omega
    simp [n9]
    rw [u_tSeq]
    simp [n12]
    rw [u_tSeq]
    simp [r1]
    refine w.row fun H2 la w2 _ hla => ?_
    obtain ⟨dx, S2, _⟩ := w2
    rw [nums_len] at S2
    exact go H2 la dx S2 hla
  cases hf with
  | labels law on known =>
    refine three law on known rest (by simpa [PyFlat.putRows] using hw) fun H2 w2 => ?_
    obtain ⟨dx, S2, _⟩ := w2
    rw [u_tSeq]
    simp
    exact ⟨_, L, s, law, on, known, rfl, S2, ans_w q (by simp [PyFlat.putRows])⟩
  | broken law on known n =>
    refine three law on known ((n : Int) :: rest) (by simpa [PyFlat.putRows] using hw) fun H2 w2 => ?_
    obtain ⟨d2, r2⟩ := w2.rdI
    rw [u_tSeq]
    simp
    rw [u_tSeq]
    simp [r2]
    refine w2.num fun H3 w3 _ => ?_
    obtain ⟨dx, S3, _⟩ := w3
    exact ⟨_, L, s, law, on, known, n, rfl, S3, ans_w q (by simp [PyFlat.putRows])⟩
  | read law on known l =>
    refine three law on known (PyFlat.putRow (nums l) ++ rest) (by simpa [PyFlat.putRows] using hw) fun H2 w2 => ?_
    refine row law on known l H2 (by simp) w2 fun H3 la dx S3 hla => ?_
    rw [u_tSeq]
    simp
    exact ⟨_, L, s, law, on, known, la, l, rfl, S3, hla, ans_w q (by simp [PyFlat.putRows, PyFlat.putRow]; omega)⟩
  | origin law on known l =>
    refine three law on known (PyFlat.putRow (nums l) ++ rest) (by simpa [PyFlat.putRows] using hw) fun H2 w2 => ?_
    refine row law on known l H2 (by simp) w2 fun H3 la dx S3 hla => ?_
    rw [u_tSeq]
    simp
    rw [u_tSeq]
    simp
    exact ⟨_, L, s, law, on, known, la, l, rfl, S3, hla, ans_w q (by simp [PyFlat.putRows, PyFlat.putRow]; omega)⟩
  | next law on known l =>
    refine three law on known (PyFlat.putRow (nums l) ++ rest) (by simpa [PyFlat.putRows] using hw) fun H2 w2 => ?_
    refine row law on known l H2 (by simp) w2 fun H3 la dx S3 hla => ?_
    rw [u_tSeq]
    simp
    rw [u_tSeq]
    simp
    exact ⟨_, L, s, law, on, known, la, l, rfl, S3, hla, ans_w q (by simp [PyFlat.putRows, PyFlat.putRow]; omega)⟩
  | _ => exfalso; omega
end
end LD

namespace LD
open PySem PySem.Spec PyProof.Rows L2
section
variable {K : PySem.W.Frag} {mg : Str → Option Value} {A : Ad}
/-! ### what changes the object -/
theorem CmdR.acts {acts acts' : List Nat} {I : Hp} {a : Addr} {x : NC} (h : CmdR A acts I a x) (k : ∀ (i : Nat) (d : Nat), acts[i]? = some d → acts'[i]? = some d) : CmdR A acts' I a x := by
  obtain ⟨m, h1, h2, h3, h4, h5, h6, j, h7, h8⟩ := h
  exact ⟨m, h1, h2, h3, h4, h5, h6, j, h7, k _ _ h8⟩
theorem keys_acts {fr : Cells} {L : Lay} {a b : List Nat} : keys (fr ++ L.cells A a) = keys (fr ++ L.cells A b) := by
  rw [Lay.cells_eq, Lay.cells_eq]; simp [keys]
theorem st_act {fr : Cells} {L : Lay} {s : Kcs5.Abs} {H H' : Hp} {acts' : List Nat} (h : StA A fr L s H) (k : Kp [L.dl] H H') (e : IL H' L.dl (nums acts')) (ha : ∀ (i : Nat) (d : Nat), s.acts[i]? = some d → acts'[i]? = some d) (wf : Wf { s with acts := acts' }) : StA A fr L { s with acts := acts' } H' := by
  have hat := h.at_
  rw [Lay.cells_eq] at hat
  have hat1 : At ((fr ++ [(L.lw, HO.ins A.c_Laws L.dlw (lawF L.r L.d)), (L.r, .ins A.c_Record L.dr (recF L.dl L.cl))]) ++ (L.dl, .lst ((nums s.acts).map V.int)) :: ([(L.cl, HO.lst (L.ca.map V.ref))] ++ (L.d, .dK (L.crs.map crKv)) :: L.crs.flatMap (Cr.cells A))) H := by simpa using hat
  have hat2 := hat1.repl e trivial k
  have hat3 : At (fr ++ L.cells A acts') H' := by
    rw [Lay.cells_eq]
    simpa using hat2
  have hk := @keys_acts A fr L s.acts acts'
  have v : Same (VW A fr L s.acts H) (VW A fr L acts' H') := vw_same fun b u nb eb => by
    have bd : b ≠ L.dl := fun e => nb (by
      rw [e]
      simp only [Ms, List.mem_cons]
      right
      rw [Lay.cells_eq]; simp [keys])
    refine ⟨?_, k b u (by simpa using bd) eb⟩
    simp only [Ms] at nb ⊢
    rw [← hk]; exact nb
  refine ⟨hat3, tab_kp h.tab (fun b m => by simp at m; subst m; exact ⟨_, h.dl, trivial⟩) k, wf, ?_, fun x m => ?_, h.nd⟩
  · exact h.cmd.imp fun a x r => (r.mono v).acts ha
  · have := (h.crs x m).mono v
    exact ⟨this.steps, this.lt, this.len, this.law⟩
theorem st_cmd {fr : Cells} {L : Lay} {s : Kcs5.Abs} {H H' : Hp} {rd c : Addr} {o0 o1 : HO} {cmd : Kcs5.Command} (h : StA A ((rd, o0) :: fr) L s H) (k : Kp [rd, L.cl] H H') (er : H' rd = some o1) (hp : Pl o1) (ecl : H' L.cl = some (.lst ((L.ca ++ [c]).map V.ref)))
    (hc : CmdR A s.acts (wo H' (Ms A ((rd, o0) :: fr) L s.acts)) c (s.commands.length, cmd)) (wf : Wf { s with commands := s.commands ++ [cmd] }) : StA A ((rd, o1) :: fr) { L with ca := L.ca ++ [c] } { s with commands := s.commands ++ [cmd] } H' := by
  have hat := h.at_
  rw [List.cons_append] at hat
  have rcl : rd ≠ L.cl := fun e => by
    have := (List.nodup_cons.mp hat.nd).1
    apply this
    rw [e, Lay.cells_eq]; simp [keys]
  -- first the reader, then the list
  have hat1 : At ((rd, o0) :: ((fr ++ [(L.lw, HO.ins A.c_Laws L.dlw (lawF L.r L.d)), (L.r, .ins A.c_Record L.dr (recF L.dl L.cl)), (L.dl, .lst ((nums s.acts).map V.int))]) ++ (L.cl, .lst (L.ca.map V.ref)) :: ((L.d, .dK (L.crs.map crKv)) :: L.crs.flatMap (Cr.cells A)))) H := by
    rw [Lay.cells_eq] at hat
    simpa using hat
  have hmid : At ((rd, o1) :: ((fr ++ [(L.lw, HO.ins A.c_Laws L.dlw (lawF L.r L.d)), (L.r, .ins A.c_Record L.dr (recF L.dl L.cl)), (L.dl, .lst ((nums s.acts).map V.int))]) ++ (L.cl, .lst ((L.ca ++ [c]).map V.ref)) :: ((L.d, .dK (L.crs.map crKv)) :: L.crs.flatMap (Cr.cells A)))) H' := by
    have a1 := hat1.chg (H' := upd H rd o1) upd_same hp (Kp.wr (by simp))
    have a2 : At (((rd, o1) :: (fr ++ [(L.lw, HO.ins A.c_Laws L.dlw (lawF L.r L.d)), (L.r, .ins A.c_Record L.dr (recF L.dl L.cl)), (L.dl, .lst ((nums s.acts).map V.int))])) ++ (L.cl, .lst (L.ca.map V.ref)) :: ((L.d, .dK (L.crs.map crKv)) :: L.crs.flatMap (Cr.cells A))) (upd H rd o1) := a1
    have a3 := a2.repl (H' := H') ecl trivial (fun b u nb eb => by
      by_cases hb : b = rd
      · subst hb; rw [upd_same] at eb; cases eb; exact er
      · rw [upd_ne hb] at eb
        exact k b u (by simp at nb ⊢; exact ⟨hb, nb⟩) eb)
    exact a3
  have hat3 : At (((rd, o1) :: fr) ++ ({ L with ca := L.ca ++ [c] } : Lay).cells A s.acts) H' := by
    rw [Lay.cells_eq]
    simpa using hmid
  have hk : keys (((rd, o1) :: fr) ++ ({ L with ca := L.ca ++ [c] } : Lay).cells A s.acts) = keys (((rd, o0) :: fr) ++ L.cells A s.acts) := by
    rw [Lay.cells_eq, Lay.cells_eq]; simp [keys]
  have hM : Ms A ((rd, o1) :: fr) { L with ca := L.ca ++ [c] } s.acts = Ms A ((rd, o0) :: fr) L s.acts := by
    unfold Ms; rw [hk]
  have v : Same (VW A ((rd, o0) :: fr) L s.acts H) (VW A ((rd, o1) :: fr) { L with ca := L.ca ++ [c] } s.acts H') := by
    unfold VW
    rw [hM]
    refine vw_same fun b u nb eb => ⟨nb, k b u ?_ eb⟩
    simp only [Ms, List.mem_cons, not_or, List.cons_append, keys_cons] at nb
    simp
    refine ⟨nb.2.1, fun e => nb.2.2 ?_⟩
    rw [e, Lay.cells_eq]; simp [keys]
  refine ⟨hat3, ?_, wf, ?_, fun x m => ?_, h.nd⟩
  · refine tab_kp h.tab (fun b m => ?_) k
    simp at m
    rcases m with rfl | rfl
    · exact ⟨o0, hat.hd, hat.pl (b, o0) (by simp)⟩
    · exact ⟨_, h.cl, trivial⟩
  · rw [idx_snoc]
    refine (h.cmd.imp fun a x r => r.mono v).app (.cons ?_ .nil)
    show CmdR A s.acts (wo H' (Ms A ((rd, o1) :: fr) { L with ca := L.ca ++ [c] } s.acts)) c _
    rw [hM]; exact hc
  · have hx := (h.crs x m).mono v
    refine ⟨?_, fun n hn => by have := hx.lt n hn; simp; omega, hx.len, hx.law⟩
    have : stepsOf (what { s with commands := s.commands ++ [cmd] }) [] x.ns = stepsOf (what s) [] x.ns := stepsOf_congr _ _ fun n hn => what_snoc (hx.lt n hn)
    rw [this]
    exact hx.steps
/-! ### what is sound -/
theorem span_eq (f u : Nat) : mSpan (f : Int) (u : Int) = Kcs5.goodTime f u := by
  unfold mSpan Kcs5.goodTime Kcs5.DAYS
  rw [Bool.eq_iff_iff]
  simp
  omega
/-- what a call of a command comes to -/
structure CmdForm (c : List (List Int)) (k : Kcs5.Call) (m : MC) (w : Kcs5.What) (law f u : Nat) : Prop where
  mc : mcOf c = some m
  step : ∀ s, Kcs5.step s k = Kcs5.more s (mSound m) law f u w
  law : m.law = (law : Nat)
  begins : m.begins = (f : Nat)
  till : m.till = (u : Nat)
  what : mSound m = true → ∀ n a, WhatRel (m.kept n a) w
theorem law_eq (law : Nat) : decide ((law : Int) ≤ 63) = decide (law < Kcs5.LAWS) := by rw [decide_eq_decide]; unfold Kcs5.LAWS; omega
theorem cmd_form {c : List (List Int)} {k : Kcs5.Call} (h : CallForm c k) (hk : ∃ (p : Int) (r1 : List Int) (r2 : List (List Int)), c = (p :: r1) :: r2 ∧ (p = 2 ∨ p = 3 ∨ p = 4 ∨ p = 5 ∨ p = 6)) : ∃ m w law f u, CmdForm c k m w law f u := by
  have nil_t : mText ([] : List Int) = true := by decide
  cases h with
  | put law f u a l t =>
    refine ⟨⟨2, 0, 0, law, f, u, 0, 0, nums a, nums l, [], [], nums t⟩, .put a l t, law, f, u, rfl, fun s => ?_, rfl, rfl, rfl, fun _ n b => ⟨rfl, rfl, rfl, rfl⟩⟩
    have e : mSound ⟨2, 0, 0, law, f, u, 0, 0, nums a, nums l, [], [], nums t⟩ = (decide (law < Kcs5.LAWS) && (a.isEmpty || Kcs5.isLabel a) && Kcs5.isLabel l && Kcs5.isText t && Kcs5.goodTime f u) := by
      simp only [mSound, span_eq, mLabel_eq, mText_eq, law_eq, if_true, nums_len]
      have : decide (a.length = 0) = a.isEmpty := by cases a <;> rfl
      rw [this]
      cases decide (law < Kcs5.LAWS) <;> cases (a.isEmpty || Kcs5.isLabel a) <;> cases Kcs5.isLabel l <;> cases Kcs5.isText t <;> cases Kcs5.goodTime f u <;> rfl
    rw [e]; rfl
  | take law f u l =>
    refine ⟨⟨3, 0, 0, law, f, u, 0, 0, [], nums l, [], [], []⟩, .take l, law, f, u, rfl, fun s => ?_, rfl, rfl, rfl, fun _ n b => ⟨rfl, rfl⟩⟩
    have e : mSound ⟨3, 0, 0, law, f, u, 0, 0, [], nums l, [], [], []⟩ = (decide (law < Kcs5.LAWS) && Kcs5.isLabel l && Kcs5.goodTime f u) := by
      simp only [mSound, span_eq, mLabel_eq, nil_t, law_eq]
      simp
      cases decide (law < Kcs5.LAWS) <;> cases Kcs5.isLabel l <;> cases Kcs5.goodTime f u <;> rfl
    rw [e]; rfl
  | text law f u l t =>
    refine ⟨⟨4, 0, 0, law, f, u, 0, 0, [], nums l, [], [], nums t⟩, .text l t, law, f, u, rfl, fun s => ?_, rfl, rfl, rfl, fun _ n b => ⟨rfl, rfl, rfl⟩⟩
    have e : mSound ⟨4, 0, 0, law, f, u, 0, 0, [], nums l, [], [], nums t⟩ = (decide (law < Kcs5.LAWS) && Kcs5.isLabel l && Kcs5.isText t && Kcs5.goodTime f u) := by
      simp only [mSound, span_eq, mLabel_eq, mText_eq, law_eq]
      simp
      cases decide (law < Kcs5.LAWS) <;> cases Kcs5.isLabel l <;> cases Kcs5.isText t <;> cases Kcs5.goodTime f u <;> rfl
    rw [e]; rfl
  | word law f u l o t =>
    refine ⟨⟨5, 0, 0, law, f, u, 0, 0, [], nums l, nums o, [], nums t⟩, .word l o t, law, f, u, rfl, fun s => ?_, rfl, rfl, rfl, fun _ n b => ⟨rfl, rfl, rfl, rfl⟩⟩
    have e : mSound ⟨5, 0, 0, law, f, u, 0, 0, [], nums l, nums o, [], nums t⟩ = (decide (law < Kcs5.LAWS) && Kcs5.isLabel l && !o.isEmpty && Kcs5.isText o && Kcs5.isText t && Kcs5.goodTime f u) := by
      simp only [mSound, span_eq, mLabel_eq, mText_eq, law_eq, nums_len]
      have : decide (0 < o.length) = !o.isEmpty := by cases o <;> simp
      rw [this]
      simp
      cases decide (law < Kcs5.LAWS) <;> cases Kcs5.isLabel l <;> cases o.isEmpty <;> cases Kcs5.isText o <;> cases Kcs5.isText t <;> cases Kcs5.goodTime f u <;> rfl
    rw [e]; rfl
  | name law g f u l o =>
    have e : mSound ⟨6, 0, 0, law, f, u, g, 0, [], nums l, [], nums o, []⟩ = (decide (law < Kcs5.LAWS) && Kcs5.isLabel l && Kcs5.isLabel o && decide (g ≤ 1) && Kcs5.goodTime f u) := by
      simp only [mSound, span_eq, mLabel_eq, nil_t, law_eq]
      have : decide ((g : Int) ≤ 1) = decide (g ≤ 1) := by rw [decide_eq_decide]; omega
      simp [this]
      cases decide (law < Kcs5.LAWS) <;> cases Kcs5.isLabel l <;> cases Kcs5.isLabel o <;> cases decide (g ≤ 1) <;> cases Kcs5.goodTime f u <;> rfl
    refine ⟨⟨6, 0, 0, law, f, u, g, 0, [], nums l, [], nums o, []⟩, .name l o (g == 1), law, f, u, rfl, fun s => ?_, rfl, rfl, rfl, fun hs n b => ⟨rfl, rfl, rfl, ?_⟩⟩
    · rw [e]; rfl
    · rw [e] at hs
      simp at hs
      have : g ≤ 1 := of_decide_eq_true (by simpa using hs.1.2)
      show (g : Int) = _
      by_cases hg : g = 1
      · subst hg; rfl
      · have : g = 0 := by omega
        subst this; rfl
  | _ =>
    exfalso
    obtain ⟨p, r1, r2, e, h⟩ := hk
    have e1 := (List.cons.inj (List.cons.inj e).1).1
    omega
end
end LD

namespace LD
open PySem PySem.Spec PyProof.Rows L2
def sp_answer_call (K : PySem.W.Frag) (A : Ad) : Sp := fun vs H Q _ => ∃ (fr : Cells) (L : Lay) (s : Kcs5.Abs) (rd p : Addr) (ns : List Int) (i : Nat) (c : List (List Int)) (rest : List Int), vs = [.ref L.lw, .ref rd] ∧ Wd K A fr L s rd p ns i (PyFlat.put1 c ++ rest) H ∧ PyFlat.okCall PyKcs5.shape c ∧ (∀ x ∈ ns, 0 ≤ x) ∧
  AnsW A fr L.lw rd p (i + (PyFlat.put1 c).length) Q (stp s c).1 (stp s c).2
section
variable {K : PySem.W.Frag} {mg : Str → Option Value} {A : Ad}
theorem Wd.same {fr : Cells} {L : Lay} {s : Kcs5.Abs} {rd p : Addr} {ns : List Int} {i : Nat} {rest : List Int} {H H' : Hp} (h : Wd K A fr L s rd p ns i rest H) (k : Same H H') : Wd K A fr L s rd p ns i rest H' := by
  obtain ⟨dx, S, h2⟩ := h
  exact ⟨dx, S.same k, h2⟩
theorem if_in5 {D : Ends} {σ : L2.St} {H : Hp} {k : Int} {t u : TS} (s2 : σ[2]? = some (some (.int k)))
    (h1 : (k = 2 ∨ k = 3 ∨ k = 4 ∨ k = 5 ∨ k = 6) → ∀ H', Same H H' → t D σ H') (h2 : ¬ (k = 2 ∨ k = 3 ∨ k = 4 ∨ k = 5 ∨ k = 6) → ∀ H', Same H H' → u D σ H') :
    tIfS (tTest (tOp (rIn K false) (tVar 2) (tTup (tCons (tC (.int (2))) (tCons (tC (.int (3))) (tCons (tC (.int (4))) (tCons (tC (.int (5))) (tCons (tC (.int (6))) tNil)))))))) t u D σ H := by
  have sl : ∀ R : V → Prop, slot σ 2 R ↔ R (.int k) := fun R => by simp [slot, s2]
  simp [sl]
  refine ⟨(by show 5 ≤ sizeLine; decide), alloc_new fun q H2 n2 e2 k2 => ⟨q, _, rfl, .inr (SqT.of e2), rfl, rfl, ?_⟩⟩
  have e : inV (.int k) [.int 2, .int 3, .int 4, .int 5, .int 6] = decide (k = 2 ∨ k = 3 ∨ k = 4 ∨ k = 5 ∨ k = 6) := by
    rw [Bool.eq_iff_iff]
    simp [inV, eqV]
    omega
  simp [e]
  by_cases hk : k = 2 ∨ k = 3 ∨ k = 4 ∨ k = 5 ∨ k = 6
  · rw [if_pos hk]; exact h1 hk H2 k2
  · rw [if_neg hk]; exact h2 hk H2 k2
/-- a list of one number is the answer -/
theorem answ_one {fr : Cells} {L' : Lay} {s' : Kcs5.Abs} {lw rd p dx : Addr} {i j : Nat} {Q : VK} {x : Int} {H : Hp} (q : AnsW A fr lw rd p j Q s' [x]) (S : StA A ((rd, rdO A dx p i) :: fr) L' s' H) (el : L'.lw = lw) (ej : i = j) : [V.int x].length ≤ sizeLine ∧ alloc H (.lst [.int x]) fun p H2 => Q (.ref p) H2 := by
  subst ej
  refine ⟨(by show 1 ≤ sizeLine; decide), alloc_new fun q' H2 n e k => q H2 L' q' dx (S.add n k e trivial).1 el⟩
theorem act_step (s : Kcs5.Abs) (d : Nat) : Kcs5.step s (.act d) = ({ s with acts := (mAct s.acts d).1 }, .num (mAct s.acts d).2) := by
  simp only [Kcs5.step]
  by_cases h : Kcs5.DAYS < d ∨ (s.acts.getLast?.any fun x => decide (d < x)) = true
  · have e : mAct s.acts d = (s.acts, -1) := by unfold mAct; exact if_pos h
    rw [if_pos h, e]
  · rw [if_neg h]
    by_cases h2 : Kcs5.ACTS ≤ s.acts.length
    · have e : mAct s.acts d = (s.acts, -28) := by unfold mAct; rw [if_neg (show ¬ (1048576 < d ∨ isBefore s.acts d = true) from h)]; exact if_pos h2
      rw [if_pos h2, e]
    · have e : mAct s.acts d = (s.acts ++ [d], ((s.acts.length : Nat) : Int)) := by unfold mAct; rw [if_neg (show ¬ (1048576 < d ∨ isBefore s.acts d = true) from h)]; exact if_neg h2
      rw [if_neg h2, e]
theorem mAct_get {acts : List Nat} {d : Nat} : ∀ (i x : Nat), acts[i]? = some x → (mAct acts d).1[i]? = some x := fun i x h => by
  unfold mAct
  split
  · exact h
  · split
    · exact h
    · rw [List.getElem?_append_left (List.getElem?_eq_some_iff.mp h).1]; exact h
theorem last_some {acts : List Nat} (h : acts ≠ []) : ∃ d, acts.getLast? = some d ∧ acts[acts.length - 1]? = some d := by
  obtain ⟨d, h1, h2⟩ := last_get h
  exact ⟨d, h2, h1⟩
/-- a command that is told -/
theorem answer_command (T : Txt K mg A) {fr : Cells} {L : Lay} {s : Kcs5.Abs} {rd p : Addr} {ns : List Int} {i : Nat} {pn : Int} {nms rest : List Int} {rows : List (List Int)} {k : Kcs5.Call} {m : MC} {w : Kcs5.What} {law f u : Nat} {H : Hp} {Q : VK} {v3 v4 : Option V}
    (hw : Wd K A fr L s rd p ns i (nms ++ PyFlat.putRows rows ++ rest) H) (cf : CmdForm ((pn :: nms) :: rows) k m w law f u) (q : AnsW A fr L.lw rd p (i + (nms ++ PyFlat.putRows rows).length) Q (Kcs5.step s k).1 (ansOf s k)) :
    tRet (tLst (tCons (tMeth A.c_Record "add_command" (sp_Record_add_command A) [] E0 (tFld K (tVar 0) "record") (tCons (tCall (sp_read_command K A) [] E0 (tCons (tVar 2) (tCons (tVar 1) tNil))) tNil)) tNil)) { nx := fun _ H' => Q .non H', rt := Q } [some (.ref L.lw), some (.ref rd), some (.int pn), v3, v4] H := by
  obtain ⟨dx0, S0, hq0, hl0, he0⟩ := id hw
  have hlw := S0.lw
  unfold lawF at hlw
  have hr := S0.r
  have hr' := hr
  unfold recF at hr'
  simp [hlw, hr', T.cl_Laws, T.no_Laws_record]
  refine ⟨rd, p, ns, rest, i, pn, nms, rows, m, rfl, hw.rs, cf.mc, fun H1 c nc C1 R1 K1 => ?_⟩
  obtain ⟨w1, v1⟩ := hw.step R1 K1
  obtain ⟨dx1, S1, _⟩ := w1
  obtain ⟨dx2, a, l, o, t, x, g0, g1, g2, g3, g4, g5⟩ := C1
  rw [nw_at] at g0
  have ls : ∀ {b : Addr} {xs : List Int}, IL (nw H H1 c) b xs → H b = none ∧ b ≠ c ∧ IL H1 b xs := fun {b xs} e => by
    have e2 := nw_some e
    have bc : b ≠ c := ne_of e2.2 g0 (by intro z; cases z)
    refine ⟨?_, bc, e2.2⟩
    rcases e2.1 with z | z
    · exact absurd z bc
    · exact z
  have hstep := cf.step s
  have hans : ansOf s k = Kcs5Neutral.told (Kcs5.more s (mSound m) law f u w).2 := by unfold ansOf; rw [hstep]
  rw [hans, hstep] at q
  have clen : L.ca.length = s.commands.length := by have := S0.cmd.len; rw [idx_len] at this; exact this
  have wf := wf_step S0.wf k
  rw [hstep] at wf
  refine ⟨L.r, L.dr, L.dl, L.cl, c, dx2, a, l, o, t, x, s.acts, L.ca, m, rfl, S1.r, S1.dl, S1.cl, g0, ⟨dx2, a, l, o, t, x, g0, (ls g1).2.2, (ls g2).2.2, (ls g3).2.2, (ls g4).2.2, (ls g5).2.2⟩, by have := S0.wf.many; omega, fun hs => ?_, fun hs ha => ?_, fun hs ha hn => ?_, fun hs ha hn H2 k2 ec el => ?_⟩
  · have e : Kcs5.more s (mSound m) law f u w = (s, .num (-1)) := by unfold Kcs5.more; rw [if_pos hs]
    rw [e] at q
    exact answ_one q S1 rfl rfl
  · have e : Kcs5.more s (mSound m) law f u w = (s, .num (-2)) := by unfold Kcs5.more; rw [if_neg (by rw [hs]; simp), ha]; rfl
    rw [e] at q
    exact answ_one q S1 rfl rfl
  · obtain ⟨d, hd, _⟩ := last_some ha
    have e : Kcs5.more s (mSound m) law f u w = (s, .num (-28)) := by unfold Kcs5.more; rw [if_neg (by rw [hs]; simp), hd]; simp only; rw [if_pos (by unfold Kcs5.COMMANDS; omega)]
    rw [e] at q
    exact answ_one q S1 rfl rfl
  · obtain ⟨d, hd, hd2⟩ := last_some ha
    have e : Kcs5.more s (mSound m) law f u w = ({ s with commands := s.commands ++ [⟨d, law, f, u, w⟩] }, .num s.commands.length) := by unfold Kcs5.more; rw [if_neg (by rw [hs]; simp), hd]; simp only; rw [if_neg (by unfold Kcs5.COMMANDS; omega)]
    rw [e] at q wf
    have rdc : rd ≠ c := fun e => by rw [e] at S0; have := S0.frAt.hd; rw [nc] at this; cases this
    have clc : L.cl ≠ c := fun e => by have := S0.cl; rw [e, nc] at this; cases this
    have rcl : rd ≠ L.cl := fun e => by
      have h1 : H rd = some (rdO A dx0 p i) := S0.frAt.hd
      rw [e, S0.cl] at h1; cases h1
    have kk : Kp [rd, L.cl] H H2 := fun b u nb eb => by
      simp at nb
      exact k2 b u (by simp; exact ⟨ne_of_none eb nc, nb.2⟩) (K1 b u (by simpa using nb.1) eb)
    have er : H2 rd = some (rdO A dx1 p (i + (nms ++ PyFlat.putRows rows).length)) := k2 _ _ (by simp; exact ⟨rdc, rcl⟩) S1.frAt.hd
    have vn : ∀ {b : Addr} {xs : List Int}, IL (nw H H1 c) b xs → IL (wo H2 (Ms A ((rd, rdO A dx0 p i) :: fr) L s.acts)) b xs := fun {b xs} e => by
      obtain ⟨z1, z2, z3⟩ := ls e
      refine wo_new' S0.ok z1 (k2 _ _ ?_ z3)
      simp
      exact ⟨z2, (ne_of_none S0.cl z1).symm⟩
    have S2 := st_cmd (c := c) (cmd := ⟨d, law, f, u, w⟩) S0 kk er trivial el ⟨m.kept (L.ca.length : Nat) ((s.acts.length - 1 : Nat) : Int), ⟨dx2, a, l, o, t, x, wo_new' S0.ok nc ec, vn g1, vn g2, vn g3, vn g4, vn g5⟩, by simp [MC.kept, clen], cf.law, cf.begins, cf.till, cf.what hs _ _, s.acts.length - 1, rfl, hd2⟩ wf
    rw [clen]
    exact answ_one q S2 rfl rfl
/-- a call of a law that asks -/
theorem answer_rest (T : Txt K mg A) {fr : Cells} {L : Lay} {s : Kcs5.Abs} {rd p : Addr} {ns : List Int} {i : Nat} {pn : Int} {nms rest : List Int} {rows : List (List Int)} {k : Kcs5.Call} {H : Hp} {Q : VK}
    (hw : Wd K A fr L s rd p ns i (nms ++ PyFlat.putRows rows ++ rest) H) (hf : CallForm ((pn :: nms) :: rows) k) (hp : pn = 8 ∨ pn = 9 ∨ pn = 10 ∨ pn = 12 ∨ pn = 13) (hn : ¬ (pn = 2 ∨ pn = 3 ∨ pn = 4 ∨ pn = 5 ∨ pn = 6)) (hs : (Kcs5.step s k).1 = s) (q : AnsW A fr L.lw rd p (i + (nms ++ PyFlat.putRows rows).length) Q (Kcs5.step s k).1 (ansOf s k)) :
    (tSeq (tIfS (tTest (tOp rEq (tVar 2) (tC (.int (0))))) (tSeq (tDrop (tMeth A.c_Laws "begin" (sp_Laws_begin A) [] E0 (tVar 0) tNil))
        (tRet (tLst (tCons (tC (.int (0))) tNil)))) tNext)
    (tSeq (tIfS (tTest (tOp rEq (tVar 2) (tC (.int (1))))) (tRet (tLst (tCons (tMeth A.c_Record "add_act" (sp_Record_add_act A) [] E0 (tFld K (tVar 0) "record") (tCons (tMeth A.c_Reader "next_number" (sp_Reader_next_number K A) [] E0 (tVar 1) tNil) tNil)) tNil))) tNext)
    (tSeq (tIfS (tTest (tOp rEq (tVar 2) (tC (.int (7))))) (tRet (tLst (tCons (tMeth A.c_Record "add_void" (sp_Record_add_void A) [] E0 (tFld K (tVar 0) "record") (tCons (tMeth A.c_Reader "next_number" (sp_Reader_next_number K A) [] E0 (tVar 1) tNil) tNil)) tNil))) tNext)
    (tSeq (tIfS (tTest (tOp (rIn K false) (tVar 2) (tTup (tCons (tC (.int (2))) (tCons (tC (.int (3))) (tCons (tC (.int (4))) (tCons (tC (.int (5))) (tCons (tC (.int (6))) tNil)))))))) (tRet (tLst (tCons (tMeth A.c_Record "add_command" (sp_Record_add_command A) [] E0 (tFld K (tVar 0) "record") (tCons (tCall (sp_read_command K A) [] E0 (tCons (tVar 2) (tCons (tVar 1) tNil))) tNil)) tNil))) tNext)
    (tSeq (tIfS (tTest (tOp rEq (tVar 2) (tC (.int (11))))) (tSeq (tAsg (tMeth A.c_Reader "next_number" (sp_Reader_next_number K A) [] E0 (tVar 1) tNil) (gName 3))
        (tSeq (tAsg (tMeth A.c_Reader "next_number" (sp_Reader_next_number K A) [] E0 (tVar 1) tNil) (gName 4))
        (tRet (tCall (sp_tell_idle A) [] E0 (tCons (tVar 0) (tCons (tVar 3) (tCons (tVar 4) tNil))))))) tNext)
    (tRet (tCall (sp_answer_of_law K A) [] E0 (tCons (tVar 0) (tCons (tVar 2) (tCons (tVar 1) tNil)))))))))) { nx := fun _ H' => Q .non H', rt := Q } [some (.ref L.lw), some (.ref rd), some (.int pn), none, none] H := by
  have n0 : ¬ pn = 0 := by omega
  have n1 : ¬ pn = 1 := by omega
  have n7 : ¬ pn = 7 := by omega
  have n11 : ¬ pn = 11 := by omega
  rw [u_tSeq]
  simp [n0]
  rw [u_tSeq]
  simp [n1]
  rw [u_tSeq]
  simp [n7]
  rw [u_tSeq]
  refine if_in5 rfl (fun h => absurd h hn) fun _ H2 k2 => ?_
  rw [u_tNext]
  (try dsimp only)
  rw [u_tSeq]
  simp [n11]
  rw [hs] at q
  exact ⟨fr, L, s, rd, p, ns, i, pn, nms, rest, rows, k, rfl, hw.same k2, hf, hp, q⟩
theorem pure_answer_call (T : Txt K mg A) (vs : List V) (H : Hp) (Q : VK) (E : XK) (h : sp_answer_call K A vs H Q E) : t_answer_call K A (sp_Laws_begin A) (sp_Reader_next_number K A) (sp_Record_add_act A) (sp_Record_add_command A) (sp_Record_add_void A) (sp_answer_of_law K A) (sp_read_command K A) (sp_tell_idle A) { nx := fun _ H' => Q .non H', rt := Q } (L2.start ["laws", "reader", "call", "on", "known"] vs) H := by
  obtain ⟨fr, L, s, rd, p, ns, i, c, rest, rfl, hw, hok, hnn, q⟩ := h
  have nn : ∀ x ∈ PyFlat.put1 c, 0 ≤ x := fun x hx => by
    obtain ⟨_, _, _, _, e⟩ := hw
    exact hnn x (List.mem_of_mem_drop (by rw [e]; simp [hx]))
  obtain ⟨k, hf⟩ := call_form hok nn
  rw [call_step hf s] at q
  obtain ⟨pn, nms, rows, rfl, _⟩ := hok
  have hw0 : Wd K A fr L s rd p ns i (pn :: (nms ++ PyFlat.putRows rows ++ rest)) H := by
    simpa [PyFlat.put1] using hw
  have q0 : AnsW A fr L.lw rd p (i + 1 + (nms ++ PyFlat.putRows rows).length) Q (Kcs5.step s k).1 (ansOf s k) := by
    have e : i + 1 + (nms ++ PyFlat.putRows rows).length = i + (PyFlat.put1 ((pn :: nms) :: rows)).length := by simp [PyFlat.put1]; omega
    rw [e]; exact q
  clear q hw hnn nn
  obtain ⟨d0, r0⟩ := hw0.rdI
  rw [t_answer_call, u_tSeq]
  simp [L2.start, r0]
  refine hw0.num fun H1 w1 _ => ?_
  (try dsimp only)
  clear hw0 r0
  by_cases hk : pn = 2 ∨ pn = 3 ∨ pn = 4 ∨ pn = 5 ∨ pn = 6
  · have n0 : ¬ pn = 0 := by omega
    have n1 : ¬ pn = 1 := by omega
    have n7 : ¬ pn = 7 := by omega
    rw [u_tSeq]
    simp [n0]
    rw [u_tSeq]
    simp [n1]
    rw [u_tSeq]
    simp [n7]
    rw [u_tSeq]
    refine if_in5 rfl (fun _ H2 k2 => ?_) fun hn => absurd hk hn
    obtain ⟨m, w, law, f, u, cf⟩ := cmd_form hf ⟨pn, nms, rows, rfl, hk⟩
    exact answer_command T (w1.same k2) cf q0
  cases hf with
  | begin_ =>
    obtain ⟨dx1, S1, hq1, _⟩ := w1
    have hlw := S1.lw
    unfold lawF at hlw
    rw [u_tSeq]
    simp
    rw [u_tSeq]
    simp [hlw]
    refine ⟨L.lw, L.dlw, _, rfl, S1.lw, ⟨L.r, L.d, rfl⟩, fun H2 r dr dl cl d n1 n2 n3 n4 n5 e0 e1 e2 e3 e4 k2 => ?_⟩
    (try dsimp only)
    have hnk : L.lw ∉ keys ((rd, rdO A dx1 p (i + 1)) :: fr) := by
      have nd := S1.at_.nd
      rw [keys_app, List.nodup_append] at nd
      exact fun m => nd.2.2 _ m L.lw (by rw [Lay.cells_eq]; simp [keys]) rfl
    have S2 := st_fresh (H' := H2) S1.frAt hnk S1.tab S1.lw n1 n2 n3 n4 n5 e0 e1 e2 e3 e4 k2
    exact answ_one q0 S2 rfl (by simp [PyFlat.putRows])
  | act d =>
    have w1' : Wd K A fr L s rd p ns (i + 1) ((d : Int) :: rest) H1 := by simpa [PyFlat.putRows] using w1
    obtain ⟨dx1, r1⟩ := w1'.rdI
    obtain ⟨_, S1, _⟩ := id w1'
    have hlw := S1.lw
    unfold lawF at hlw
    have hr := S1.r
    unfold recF at hr
    rw [u_tSeq]
    simp
    rw [u_tSeq]
    simp [hlw, hr, r1, T.cl_Laws, T.no_Laws_record]
    refine w1'.num fun H2 w2 _ => ?_
    obtain ⟨dx2, S2, _⟩ := w2
    have wf := wf_step S2.wf (.act d)
    have ha : ansOf s (.act d) = [(mAct s.acts d).2] := by unfold ansOf; rw [act_step]; rfl
    rw [ha] at q0
    rw [act_step] at q0 wf
    refine ⟨L.r, L.dr, L.dl, L.cl, s.acts, d, rfl, S2.r, S2.dl, S2.wf.few, fun H3 k3 e3 => ?_⟩
    have S3 := st_act S2 k3 e3 mAct_get wf
    exact answ_one q0 S3 rfl (by simp [PyFlat.putRows])
  | void n =>
    have w1' : Wd K A fr L s rd p ns (i + 1) ((n : Int) :: rest) H1 := by simpa [PyFlat.putRows] using w1
    obtain ⟨dx1, r1⟩ := w1'.rdI
    obtain ⟨_, S1, _⟩ := id w1'
    have hlw := S1.lw
    unfold lawF at hlw
    have hr := S1.r
    unfold recF at hr
    rw [u_tSeq]
    simp
    rw [u_tSeq]
    simp
    rw [u_tSeq]
    simp [hlw, hr, r1, T.cl_Laws, T.no_Laws_record]
    refine w1'.num fun H2 w2 _ => ?_
    obtain ⟨dx2, S2, _⟩ := w2
    have clen : L.ca.length = s.commands.length := by have := S2.cmd.len; rw [idx_len] at this; exact this
    have wf := wf_step S2.wf (.void n)
    have hstep : Kcs5.step s (.void n) = Kcs5.more s (decide (n < s.commands.length)) 0 0 0 (.void n) := rfl
    have ha : ansOf s (.void n) = Kcs5Neutral.told (Kcs5.more s (decide (n < s.commands.length)) 0 0 0 (.void n)).2 := rfl
    rw [ha] at q0
    rw [hstep] at q0 wf
    refine ⟨L.r, L.dr, L.dl, L.cl, s.acts, L.ca, n, rfl, S2.r, S2.dl, S2.cl, by have := S2.wf.many; omega, fun H3 k3 hc => ?_, fun hlt hne h1024 H3 c nc k3 C3 e3 => ?_⟩
    · have e : Kcs5.more s (decide (n < s.commands.length)) 0 0 0 (.void n) = (s, .num (if L.ca.length ≤ n then -1 else if s.acts = [] then -2 else -28)) := by
        unfold Kcs5.more
        by_cases h1 : L.ca.length ≤ n
        · rw [if_pos (by simp; omega), if_pos h1]
        · rw [if_neg h1] at hc ⊢
          rw [if_neg (by simp; omega)]
          by_cases h2 : s.acts = []
          · rw [if_pos h2, h2]; rfl
          · obtain ⟨d, hd, _⟩ := last_some h2
            have h3 : L.ca.length = 1024 := hc.resolve_left h2
            rw [if_neg h2, hd]
            simp only
            rw [if_pos (by unfold Kcs5.COMMANDS; omega)]
      rw [e] at q0
      exact answ_one q0 (S2.same k3) rfl (by simp [PyFlat.putRows])
    · obtain ⟨d, hd, hd2⟩ := last_some hne
      have e : Kcs5.more s (decide (n < s.commands.length)) 0 0 0 (.void n) = ({ s with commands := s.commands ++ [⟨d, 0, 0, 0, .void n⟩] }, .num s.commands.length) := by
        unfold Kcs5.more
        rw [if_neg (by simp; omega), hd]
        simp only
        rw [if_neg (by unfold Kcs5.COMMANDS; omega)]
      rw [e] at q0 wf
      have rcl : rd ≠ L.cl := fun e => by
        have h1 : H2 rd = some (rdO A dx2 p (i + 1 + 1)) := S2.frAt.hd
        rw [e, S2.cl] at h1; cases h1
      have kk : Kp [rd, L.cl] H2 H3 := fun b u nb eb => k3 b u (by simp at nb ⊢; exact nb.2) eb
      have er : H3 rd = some (rdO A dx2 p (i + 1 + 1)) := k3 _ _ (by simpa using rcl) S2.frAt.hd
      obtain ⟨dx3, a, l, o, t, x, g0, g1, g2, g3, g4, g5⟩ := C3
      rw [nw_at] at g0
      have vn : ∀ {b : Addr} {xs : List Int}, IL (nw H2 H3 c) b xs → IL (wo H3 (Ms A ((rd, rdO A dx2 p (i + 1 + 1)) :: fr) L s.acts)) b xs := fun {b xs} e => by
        have e2 := nw_some e
        have bc : b ≠ c := ne_of e2.2 g0 (by intro z; cases z)
        exact wo_new' S2.ok (e2.1.resolve_left bc) e2.2
      have S3 := st_cmd (c := c) (cmd := ⟨d, 0, 0, 0, .void n⟩) S2 kk er trivial e3 ⟨MC.void (L.ca.length : Nat) ((s.acts.length - 1 : Nat) : Int) (n : Nat), ⟨dx3, a, l, o, t, x, wo_new' S2.ok nc g0, vn g1, vn g2, vn g3, vn g4, vn g5⟩, by simp [MC.void, clen], rfl, rfl, rfl, ⟨rfl, rfl⟩, s.acts.length - 1, rfl, hd2⟩ wf
      rw [clen]
      exact answ_one q0 S3 rfl (by simp [PyFlat.putRows])
  | idle on known =>
    have w1' : Wd K A fr L s rd p ns (i + 1) ((on : Int) :: (known : Int) :: rest) H1 := by simpa [PyFlat.putRows] using w1
    rw [u_tSeq]
    simp
    rw [u_tSeq]
    simp
    rw [u_tSeq]
    simp
    rw [u_tSeq]
    refine if_in5 rfl (fun hn => absurd hn (by decide)) fun _ H2 k2 => ?_
    have w2 := w1'.same k2
    obtain ⟨dx2, r2⟩ := w2.rdI
    (try dsimp only)
    rw [u_tNext]
    (try dsimp only)
    rw [u_tSeq]
    simp
    rw [u_tSeq]
    simp [r2]
    refine w2.num fun H3 w3 _ => ?_
    obtain ⟨dx3, r3⟩ := w3.rdI
    (try dsimp only)
    rw [u_tSeq]
    simp [r3]
    refine w3.num fun H4 w4 _ => ?_
    obtain ⟨dx4, S4, _⟩ := w4
    refine ⟨_, L, s, on, known, rfl, S4, ?_⟩
    have e : (Kcs5.step s (.idle on known)).1 = s := by simp only [Kcs5.step]; split <;> rfl
    rw [e] at q0
    exact ans_w q0 (by simp [PyFlat.putRows])
  | read law on known l => exact answer_rest T w1 (.read law on known l) (by decide) (by decide) (by simp only [Kcs5.step]; split <;> first | rfl | (split <;> rfl)) q0
  | labels law on known => exact answer_rest T w1 (.labels law on known) (by decide) (by decide) (by simp only [Kcs5.step]; split <;> first | rfl | (split <;> rfl)) q0
  | origin law on known l => exact answer_rest T w1 (.origin law on known l) (by decide) (by decide) (by simp only [Kcs5.step]; split <;> first | rfl | (split <;> rfl)) q0
  | broken law on known n => exact answer_rest T w1 (.broken law on known n) (by decide) (by decide) (by simp only [Kcs5.step]; split <;> first | rfl | (split <;> rfl)) q0
  | next law on known l => exact answer_rest T w1 (.next law on known l) (by decide) (by decide) (by simp only [Kcs5.step]; split <;> first | rfl | (split <;> rfl)) q0
  | _ => exact absurd hk (by decide)
end
end LD

namespace LD
open PySem PySem.Spec PyProof.Rows L2
def spAns (A : Ad) (K : PySem.W.Frag) : Sp := fun vs H Q _ => ∃ (a : Addr) (ns : List Int), vs = [.ref a] ∧ SqL K H a (ns.map V.int) ∧ ns.length ≤ 31000 ∧ PyKcs5.answers_asked ns = true ∧ (∀ x ∈ ns, 0 ≤ x ∧ x ≤ 4294967295) ∧ LamX.TabS H A.P_in_order qLam ∧
  ∀ (H' : Hp) (p : Addr), H' p = some (.lst ((PyKcs5.answers ns).map V.int)) → Q (.ref p) H'
theorem put_app : ∀ (x y : List (List (List Int))), PyFlat.put (x ++ y) = PyFlat.put x ++ PyFlat.put y
  | [], _ => rfl
  | c :: x, y => by
    show PyFlat.put1 c ++ PyFlat.put (x ++ y) = (PyFlat.put1 c ++ PyFlat.put x) ++ PyFlat.put y
    rw [put_app x y, List.append_assoc]
theorem put1_pos {c : List (List Int)} (h : PyFlat.okCall PyKcs5.shape c) : 0 < (PyFlat.put1 c).length := by
  obtain ⟨p, a, xs, rfl, _⟩ := h
  simp [PyFlat.put1]
theorem while_w {c : TT} {tb : TS} {D : Ends} {σ : L2.St} {H : Hp} (W : Nat → L2.St → Hp → Prop) (m : Nat) (h0 : W m σ H)
    (hs : ∀ m σ H, W m σ H → c σ H fun b H1 => if b = true then ∃ N : L2.St → Hp → Prop, (∀ σ' H', N σ' H' → ∃ m', m' < m ∧ W m' σ' H') ∧ tb { D with nx := N, ct := N, bk := D.nx } σ H1 else D.nx σ H1) : tWhile c tb D σ H :=
  ⟨W, ⟨m, h0⟩, hs⟩
/-- the list that was handed in, as a part of the heap -/
theorem sq_cells {K : PySem.W.Frag} {H : Hp} {a : Addr} {xs : List V} (h : SqL K H a xs) : ∃ fr : Cells, At fr H ∧ ∀ H', At fr H' → SqL K H' a xs := by
  rcases h with (h | ⟨o, h⟩) | h
  · exact ⟨[(a, .lst xs)], ⟨by simp [keys], by simpa using h, by simp [Pl]⟩, fun H' k => .inl (.inl k.hd)⟩
  · exact ⟨[(a, .frz o (.lst xs))], ⟨by simp [keys], by simpa using h, by simp [Pl]⟩, fun H' k => .inl (.inr ⟨o, k.hd⟩)⟩
  · exact ⟨[], ⟨by simp [keys], by simp, by simp⟩, fun H' _ => .inr h⟩
section
variable {K : PySem.W.Frag} {mg : Str → Option Value} {A : Ad}
/-- between two turns of the loop -/
structure WAns (K : PySem.W.Frag) (A : Ad) (a rd lw t : Addr) (fr : Cells) (ns : List Int) (raw : List (List (List Int))) (m : Nat) (σ : L2.St) (H' : Hp) : Prop where
  ex : ∃ (done todo : List (List (List Int))) (s : Kcs5.Abs) (L : Lay) (out : List Int) (v : Option V), m = todo.length ∧ raw = done ++ todo ∧ σ = [some (.ref a), some (.ref rd), some (.ref lw), some (.ref t), v] ∧
    Wd K A ((t, .lst (out.map V.int)) :: fr) L s rd a ns (PyFlat.put done).length (PyFlat.put todo) H' ∧ L.lw = lw ∧
    PyFlat.told (PyFlat.played stp Kcs5.empty raw) = out ++ PyFlat.told (PyFlat.played stp s todo)
theorem pure_answers (T : Txt K mg A) (vs : List V) (H : Hp) (Q : VK) (E : XK) (h : spAns A K vs H Q E) : t_answers K A (sp_Laws_init A) (sp_Reader_has_more K A) (sp_Reader_init A) (sp_answer_call K A) { nx := fun _ H' => Q .non H', rt := Q } (L2.start ["calls", "reader", "laws", "told", "answer"] vs) H := by
  obtain ⟨a, ns, rfl, hS, hlen, hask, hb, htab, k⟩ := h
  obtain ⟨raw, en, hok, h2000, ea, hfew⟩ := asked_parse hask
  obtain ⟨fr, hfr, hfq⟩ := sq_cells hS
  rw [t_answers, u_tSeq]
  simp [L2.start]
  refine mk_new (R := fun rd dx H2 => sp_Reader_init A [.ref rd, .ref a] H2 _ E0) fun rd dx H1 n1 e1 k1 => ⟨rd, a, dx, rfl, e1, fun H2 R2 k2 => ⟨rfl, ?_⟩⟩
  obtain ⟨dr, r2⟩ := R2
  have s2 : Same H H2 := same_kp n1 k1 k2
  have at2 : At ((rd, rdO A dr a 0) :: fr) H2 := hfr.add n1 s2 r2 trivial
  have tab2 := tab_same htab s2
  (try dsimp only)
  rw [u_tSeq]
  simp
  refine mk_new (R := fun lw dx H2 => sp_Laws_init A [.ref lw] H2 _ E0) fun lw dw H3 n3 e3 k3 => ⟨lw, dw, [], rfl, e3, rfl, fun H4 r dr' dl cl d m1 m2 m3 m4 m5 f0 f1 f2 f3 f4 k4 => ⟨rfl, ?_⟩⟩
  have at3 := at2.same k3
  have lwn : lw ∉ keys ((rd, rdO A dr a 0) :: fr) := at2.notin n3
  have S4 := st_fresh (H' := H4) at3 lwn (tab_same tab2 k3) e3 m1 m2 m3 m4 m5 f0 f1 f2 f3 f4 k4
  (try dsimp only)
  rw [u_tSeq]
  simp
  refine alloc_new fun t H5 n5 e5 k5 => ?_
  obtain ⟨S5, _⟩ := S4.add n5 k5 e5 trivial
  obtain ⟨S5', _⟩ := S5.perm (List.Perm.swap _ _ _)
  rw [u_tSeq]
  have tot : (PyFlat.told (PyFlat.played stp Kcs5.empty raw)).length < 1002001 := by
    rw [told_len, played_len]; omega
  obtain ⟨W, hW⟩ := hid (WAns K A a rd lw t fr ns raw)
  refine while_w W raw.length ?_ ?_
  · rw [hW]
    refine ⟨[], raw, Kcs5.empty, _, [], none, rfl, rfl, rfl, ⟨dr, S5', fun H' h => hfq H' h.tl, Nat.zero_le _, ?_⟩, rfl, rfl⟩
    show ns.drop 0 = PyFlat.put raw
    rw [List.drop_zero]; exact en
  · intro m σ H6 hw
    rw [hW] at hw
    obtain ⟨done, todo, s, L, out, v, rfl, er, rfl, w6, el, et⟩ := hw
    obtain ⟨d6, r6⟩ := w6.rdI
    have rs6 := w6.rs
    simp [r6]
    refine ⟨rd, a, _, _, rfl, rs6.r, rs6.s, ?_⟩
    simp
    cases todo with
    | nil =>
      rw [List.append_nil] at er
      have : ¬ (PyFlat.put done).length < ns.length := by rw [en, er]; omega
      rw [if_neg this]
      obtain ⟨dx6, S6, _⟩ := w6
      refine k _ _ ?_
      have ht : H6 t = some (.lst (out.map V.int)) := S6.frAt.mem (by simp)
      rw [ea, et, ht]
      show _ = some (HO.lst (List.map V.int (out ++ [])))
      rw [List.append_nil]
    | cons c rest =>
      have hc := hok c (by rw [er]; simp)
      have en2 : ns = PyFlat.put done ++ (PyFlat.put1 c ++ PyFlat.put rest) := by rw [en, er, put_app, put_cons]
      have len2 : ns.length = (PyFlat.put done).length + ((PyFlat.put1 c).length + (PyFlat.put rest).length) := by rw [en2]; simp
      have pos := put1_pos hc.1
      rw [if_pos (by omega)]
      refine ⟨fun σ' H' => ∃ m', m' < (c :: rest).length ∧ W m' σ' H', fun _ _ h => h, ?_⟩
      obtain ⟨N, hN⟩ := hid (fun (σ' : L2.St) (H' : Hp) => ∃ m', m' < (c :: rest).length ∧ W m' σ' H')
      rw [← hN]
      have et2 : PyFlat.told (PyFlat.played stp Kcs5.empty raw) = out ++ ((((stp s c).2.length : Int) :: (stp s c).2) ++ PyFlat.told (PyFlat.played stp (stp s c).1 rest)) := by
        rw [et]
        show out ++ PyFlat.told ((stp s c).2 :: PyFlat.played stp (stp s c).1 rest) = _
        rw [told_cons]
      have tot2 := tot
      rw [et2] at tot2
      simp only [List.length_append, List.length_cons] at tot2
      rw [u_tSeq]
      simp
      refine ⟨(t, .lst (out.map V.int)) :: fr, L, s, rd, a, ns, (PyFlat.put done).length, c, PyFlat.put rest, by rw [el], w6, hc.1, fun x hx => (hb x hx).1, fun H7 L7 q dx7 S7 el7 => ?_⟩
      obtain ⟨_, _, hq6, _, _⟩ := w6
      have hq7 : H7 q = some (.lst ((stp s c).2.map V.int)) := S7.frAt.hd
      have ht7 : H7 t = some (.lst (out.map V.int)) := S7.frAt.mem (by simp)
      (try dsimp only)
      rw [u_tSeq]
      simp [-upd_at]
      refine ⟨.inl ⟨rfl, _, SqL.of ht7⟩, len_of hq7 ?_⟩
      have lm : ((stp s c).2.map V.int).length = (stp s c).2.length := List.length_map ..
      rw [lm]
      simp [-upd_at, ht7]
      refine ⟨by rw [sz]; omega, ?_⟩
      -- the list of what is told comes to the head of the frame
      have p1 : List.Perm ((q, HO.lst ((stp s c).2.map V.int)) :: (rd, rdO A dx7 a ((PyFlat.put done).length + (PyFlat.put1 c).length)) :: (t, HO.lst (out.map V.int)) :: fr) ((t, HO.lst (out.map V.int)) :: (q, HO.lst ((stp s c).2.map V.int)) :: (rd, rdO A dx7 a ((PyFlat.put done).length + (PyFlat.put1 c).length)) :: fr) := by
        refine List.Perm.trans (List.Perm.cons _ (List.Perm.swap _ _ _)) (List.Perm.swap _ _ _)
      obtain ⟨S8, _⟩ := S7.perm p1
      obtain ⟨S9, _⟩ := S8.set (H' := upd H7 t (.lst (out.map V.int ++ [.int ((stp s c).2.length : Nat)]))) upd_same trivial (Kp.wr (by simp))
      generalize hH9 : upd H7 t _ = H9 at S9 ⊢
      have hq9 : H9 q = some (.lst ((stp s c).2.map V.int)) := S9.frAt.mem (by simp)
      have ht9 : H9 t = some (.lst (out.map V.int ++ [.int ((stp s c).2.length : Nat)])) := S9.frAt.hd
      simp [-upd_at, ht9, hq9]
      refine ⟨.inl ⟨rfl, _, SqL.of ht9⟩, by rw [sz]; omega, ?_⟩
      obtain ⟨S10, _⟩ := S9.set (H' := upd H9 t (.lst (out.map V.int ++ (V.int ((stp s c).2.length : Nat) :: (stp s c).2.map V.int)))) upd_same trivial (Kp.wr (by simp))
      have p2 : List.Perm ((t, HO.lst (out.map V.int ++ (V.int ((stp s c).2.length : Nat) :: (stp s c).2.map V.int))) :: (q, HO.lst ((stp s c).2.map V.int)) :: (rd, rdO A dx7 a ((PyFlat.put done).length + (PyFlat.put1 c).length)) :: fr) ((q, HO.lst ((stp s c).2.map V.int)) :: (rd, rdO A dx7 a ((PyFlat.put done).length + (PyFlat.put1 c).length)) :: (t, HO.lst (out.map V.int ++ (V.int ((stp s c).2.length : Nat) :: (stp s c).2.map V.int))) :: fr) := by
        refine List.Perm.trans (List.Perm.swap _ _ _) (List.Perm.cons _ (List.Perm.swap _ _ _))
      obtain ⟨S11, _⟩ := S10.perm p2
      have S12 := S11.drop.1
      rw [hN]
      refine ⟨rest.length, by simp, ?_⟩
      rw [hW]
      refine ⟨done ++ [c], rest, (stp s c).1, L7, out ++ (((stp s c).2.length : Int) :: (stp s c).2), some (.ref q), rfl, by rw [er]; simp, rfl, ⟨dx7, ?_, fun H' h => hfq H' h.tl, ?_, ?_⟩, el7.trans el, ?_⟩
      · have e1 : (out ++ (((stp s c).2.length : Int) :: (stp s c).2)).map V.int = out.map V.int ++ (V.int ((stp s c).2.length : Nat) :: (stp s c).2.map V.int) := by simp
        have e2 : (PyFlat.put (done ++ [c])).length = (PyFlat.put done).length + (PyFlat.put1 c).length := by rw [put_app]; simp [PyFlat.put]
        rw [e1, e2]
        exact S12
      · rw [put_app]; simp [PyFlat.put]; omega
      · rw [put_app, en2, ← List.append_assoc]
        have : PyFlat.put [c] = PyFlat.put1 c := by simp [PyFlat.put]
        rw [this, List.drop_left]
      · rw [et2]; simp
end
end LD

namespace LD
open PySem PySem.Spec PyProof.Rows L2
theorem ok_all {P : Program} {w : World} {K : PySem.W.Frag} {mg : Str → Option Value} {base : Heap} {A : Ad} (T : Txt K mg A) (tb : LamX.TabB base mg A.k_in_order A.P_in_order) : FnOk P w K mg base CX0 14 A.f_answers A.d_answers ["calls"] (spAns A K) := by
  have G_Command_init := ok_Command_init (P := P) (w := w) (base := base) T (sp := sp_Command_init A) (by intro vs H Q E h; unfold sp_Command_init at h; repeat (first | (obtain ⟨rfl, _⟩ := h; rfl) | (obtain ⟨_, h⟩ := h))) (pure_Command_init T)
  have G_Course_init := ok_Course_init (P := P) (w := w) (base := base) T (sp := sp_Course_init A) (by intro vs H Q E h; unfold sp_Course_init at h; repeat (first | (obtain ⟨rfl, _⟩ := h; rfl) | (obtain ⟨_, h⟩ := h))) (pure_Course_init T)
  have G_Course_keep_same := ok_Course_keep_same (P := P) (w := w) (base := base) T (sp := sp_Course_keep_same A) (by intro vs H Q E h; unfold sp_Course_keep_same at h; repeat (first | (obtain ⟨rfl, _⟩ := h; rfl) | (obtain ⟨_, h⟩ := h))) (pure_Course_keep_same T)
  have G_Course_sections_now := ok_Course_sections_now (P := P) (w := w) (base := base) T (sp := sp_Course_sections_now A) (by intro vs H Q E h; unfold sp_Course_sections_now at h; repeat (first | (obtain ⟨rfl, _⟩ := h; rfl) | (obtain ⟨_, h⟩ := h))) (pure_Course_sections_now T)
  have G_Course_without_effect := ok_Course_without_effect (P := P) (w := w) (base := base) T (sp := sp_Course_without_effect A) (by intro vs H Q E h; unfold sp_Course_without_effect at h; repeat (first | (obtain ⟨rfl, _⟩ := h; rfl) | (obtain ⟨_, h⟩ := h))) (pure_Course_without_effect T)
  have G_Reader_has_more := ok_Reader_has_more (P := P) (w := w) (base := base) T (sp := sp_Reader_has_more K A) (by intro vs H Q E h; unfold sp_Reader_has_more at h; repeat (first | (obtain ⟨rfl, _⟩ := h; rfl) | (obtain ⟨_, h⟩ := h))) (pure_Reader_has_more T)
  have G_Reader_init := ok_Reader_init (P := P) (w := w) (base := base) T (sp := sp_Reader_init A) (by intro vs H Q E h; unfold sp_Reader_init at h; repeat (first | (obtain ⟨rfl, _⟩ := h; rfl) | (obtain ⟨_, h⟩ := h))) (pure_Reader_init T)
  have G_Reader_next_number := ok_Reader_next_number (P := P) (w := w) (base := base) T (sp := sp_Reader_next_number K A) (by intro vs H Q E h; unfold sp_Reader_next_number at h; repeat (first | (obtain ⟨rfl, _⟩ := h; rfl) | (obtain ⟨_, h⟩ := h))) (pure_Reader_next_number T)
  have G_Record_init := ok_Record_init (P := P) (w := w) (base := base) T (sp := sp_Record_init A) (by intro vs H Q E h; unfold sp_Record_init at h; repeat (first | (obtain ⟨rfl, _⟩ := h; rfl) | (obtain ⟨_, h⟩ := h))) (pure_Record_init T)
  have G_Record_known_on := ok_Record_known_on (P := P) (w := w) (base := base) T (sp := sp_Record_known_on A) (by intro vs H Q E h; unfold sp_Record_known_on at h; repeat (first | (obtain ⟨rfl, _⟩ := h; rfl) | (obtain ⟨_, h⟩ := h))) (pure_Record_known_on T)
  have G_Record_last_act := ok_Record_last_act (P := P) (w := w) (base := base) T (sp := sp_Record_last_act A) (by intro vs H Q E h; unfold sp_Record_last_act at h; repeat (first | (obtain ⟨rfl, _⟩ := h; rfl) | (obtain ⟨_, h⟩ := h))) (pure_Record_last_act T)
  have G_Section_init := ok_Section_init (P := P) (w := w) (base := base) T (sp := sp_Section_init A) (by intro vs H Q E h; unfold sp_Section_init at h; repeat (first | (obtain ⟨rfl, _⟩ := h; rfl) | (obtain ⟨_, h⟩ := h))) (pure_Section_init T)
  have G_Step_init := ok_Step_init (P := P) (w := w) (base := base) T (sp := sp_Step_init A) (by intro vs H Q E h; unfold sp_Step_init at h; repeat (first | (obtain ⟨rfl, _⟩ := h; rfl) | (obtain ⟨_, h⟩ := h))) (pure_Step_init T)
  have G_counting_on := ok_counting_on (P := P) (w := w) (base := base) T (sp := sp_counting_on A) (by intro vs H Q E h; unfold sp_counting_on at h; repeat (first | (obtain ⟨rfl, _⟩ := h; rfl) | (obtain ⟨_, h⟩ := h))) (pure_counting_on T)
  have G_days_above := ok_days_above (P := P) (w := w) (base := base) T (sp := sp_days_above A) (by intro vs H Q E h; unfold sp_days_above at h; repeat (first | (obtain ⟨rfl, _⟩ := h; rfl) | (obtain ⟨_, h⟩ := h))) (pure_days_above T)
  have G_is_day := ok_is_day (P := P) (w := w) (base := base) T (sp := sp_is_day) (by intro vs H Q E h; unfold sp_is_day at h; repeat (first | (obtain ⟨rfl, _⟩ := h; rfl) | (obtain ⟨_, h⟩ := h))) (pure_is_day (K := K) (A := A))
  have G_is_law := ok_is_law (P := P) (w := w) (base := base) T (sp := sp_is_law) (by intro vs H Q E h; unfold sp_is_law at h; repeat (first | (obtain ⟨rfl, _⟩ := h; rfl) | (obtain ⟨_, h⟩ := h))) (pure_is_law (K := K) (A := A))
  have G_is_short := ok_is_short (P := P) (w := w) (base := base) T (sp := sp_is_short A) (by intro vs H Q E h; unfold sp_is_short at h; repeat (first | (obtain ⟨rfl, _⟩ := h; rfl) | (obtain ⟨_, h⟩ := h))) (pure_is_short T)
  have G_is_text_byte := ok_is_text_byte (P := P) (w := w) (base := base) T (sp := sp_is_text_byte) (by intro vs H Q E h; unfold sp_is_text_byte at h; repeat (first | (obtain ⟨rfl, _⟩ := h; rfl) | (obtain ⟨_, h⟩ := h))) (pure_is_text_byte (K := K) (A := A))
  have G_place_of := ok_place_of (P := P) (w := w) (base := base) T (sp := sp_place_of K A) (by intro vs H Q E h; unfold sp_place_of at h; repeat (first | (obtain ⟨rfl, _⟩ := h; rfl) | (obtain ⟨_, h⟩ := h))) (pure_place_of T)
  have G_places_in := ok_places_in (P := P) (w := w) (base := base) T (sp := sp_places_in K A) (by intro vs H Q E h; unfold sp_places_in at h; repeat (first | (obtain ⟨rfl, _⟩ := h; rfl) | (obtain ⟨_, h⟩ := h))) (pure_places_in T)
  have G_rows_of := ok_rows_of (P := P) (w := w) (base := base) T (sp := sp_rows_of) (by intro vs H Q E h; unfold sp_rows_of at h; repeat (first | (obtain ⟨rfl, _⟩ := h; rfl) | (obtain ⟨_, h⟩ := h))) (pure_rows_of T)
  have G_set_section := ok_set_section (P := P) (w := w) (base := base) T (sp := sp_set_section A) (by intro vs H Q E h; unfold sp_set_section at h; repeat (first | (obtain ⟨rfl, _⟩ := h; rfl) | (obtain ⟨_, h⟩ := h))) (pure_set_section T)
  have G_with_size := ok_with_size (P := P) (w := w) (base := base) T (sp := sp_with_size) (by intro vs H Q E h; unfold sp_with_size at h; repeat (first | (obtain ⟨rfl, _⟩ := h; rfl) | (obtain ⟨_, h⟩ := h))) (pure_with_size T)
  have G_Reader_next_row := ok_Reader_next_row (P := P) (w := w) (base := base) T G_Reader_next_number (sp := sp_Reader_next_row K A) (by intro vs H Q E h; unfold sp_Reader_next_row at h; repeat (first | (obtain ⟨rfl, _⟩ := h; rfl) | (obtain ⟨_, h⟩ := h))) (pure_Reader_next_row T)
  have G_Record_is_before_last_act := ok_Record_is_before_last_act (P := P) (w := w) (base := base) T G_Record_last_act (sp := sp_Record_is_before_last_act A) (by intro vs H Q E h; unfold sp_Record_is_before_last_act at h; repeat (first | (obtain ⟨rfl, _⟩ := h; rfl) | (obtain ⟨_, h⟩ := h))) (pure_Record_is_before_last_act T)
  have G_Record_keep := ok_Record_keep (P := P) (w := w) (base := base) T G_Record_last_act (sp := sp_Record_keep A) (by intro vs H Q E h; unfold sp_Record_keep at h; repeat (first | (obtain ⟨rfl, _⟩ := h; rfl) | (obtain ⟨_, h⟩ := h))) (pure_Record_keep T)
  have G_Record_valid_on := ok_Record_valid_on (P := P) (w := w) (base := base) T G_Record_known_on (sp := sp_Record_valid_on A) (by intro vs H Q E h; unfold sp_Record_valid_on at h; repeat (first | (obtain ⟨rfl, _⟩ := h; rfl) | (obtain ⟨_, h⟩ := h))) (pure_Record_valid_on T)
  have G_find_section := ok_find_section (P := P) (w := w) (base := base) T G_place_of (sp := sp_find_section A) (by intro vs H Q E h; unfold sp_find_section at h; repeat (first | (obtain ⟨rfl, _⟩ := h; rfl) | (obtain ⟨_, h⟩ := h))) (pure_find_section T)
  have G_is_askable := ok_is_askable (P := P) (w := w) (base := base) T G_is_day G_is_law (sp := sp_is_askable) (by intro vs H Q E h; unfold sp_is_askable at h; repeat (first | (obtain ⟨rfl, _⟩ := h; rfl) | (obtain ⟨_, h⟩ := h))) (pure_is_askable T)
  have G_is_label_byte := ok_is_label_byte (P := P) (w := w) (base := base) T G_is_text_byte (sp := sp_is_label_byte) (by intro vs H Q E h; unfold sp_is_label_byte at h; repeat (first | (obtain ⟨rfl, _⟩ := h; rfl) | (obtain ⟨_, h⟩ := h))) (pure_is_label_byte (K := K) (A := A))
  have G_is_span := ok_is_span (P := P) (w := w) (base := base) T G_is_day (sp := sp_is_span) (by intro vs H Q E h; unfold sp_is_span at h; repeat (first | (obtain ⟨rfl, _⟩ := h; rfl) | (obtain ⟨_, h⟩ := h))) (pure_is_span (K := K) (A := A))
  have G_is_text := ok_is_text (P := P) (w := w) (base := base) T G_is_text_byte (sp := sp_is_text K) (by intro vs H Q E h; unfold sp_is_text at h; repeat (first | (obtain ⟨rfl, _⟩ := h; rfl) | (obtain ⟨_, h⟩ := h))) (pure_is_text (K := K) (A := A))
  have G_Laws_begin := ok_Laws_begin (P := P) (w := w) (base := base) T G_Record_init (sp := sp_Laws_begin A) (by intro vs H Q E h; unfold sp_Laws_begin  sp_Laws_new at h; repeat (first | (obtain ⟨rfl, _⟩ := h; rfl) | (obtain ⟨_, h⟩ := h))) (pure_Laws_begin T)
  have G_Laws_course_of := ok_Laws_course_of (P := P) (w := w) (base := base) T G_Course_init (sp := sp_Laws_course_of A) (by intro vs H Q E h; unfold sp_Laws_course_of at h; repeat (first | (obtain ⟨rfl, _⟩ := h; rfl) | (obtain ⟨_, h⟩ := h))) (pure_Laws_course_of T)
  have G_Laws_init := ok_Laws_init (P := P) (w := w) (base := base) T G_Record_init (sp := sp_Laws_init A) (by intro vs H Q E h; unfold sp_Laws_init  sp_Laws_new at h; repeat (first | (obtain ⟨rfl, _⟩ := h; rfl) | (obtain ⟨_, h⟩ := h))) (pure_Laws_init T)
  have G_Record_add_act := ok_Record_add_act (P := P) (w := w) (base := base) T G_Record_is_before_last_act G_Record_last_act G_is_day (sp := sp_Record_add_act A) (by intro vs H Q E h; unfold sp_Record_add_act at h; repeat (first | (obtain ⟨rfl, _⟩ := h; rfl) | (obtain ⟨_, h⟩ := h))) (pure_Record_add_act T)
  have G_Record_add_void := ok_Record_add_void (P := P) (w := w) (base := base) T G_Command_init G_Record_keep (sp := sp_Record_add_void A) (by intro vs H Q E h; unfold sp_Record_add_void at h; repeat (first | (obtain ⟨rfl, _⟩ := h; rfl) | (obtain ⟨_, h⟩ := h))) (pure_Record_add_void T)
  have G_exchange := ok_exchange (P := P) (w := w) (base := base) T G_Section_init (sp := sp_exchange K A) (by intro vs H Q E h; unfold sp_exchange at h; repeat (first | (obtain ⟨rfl, _⟩ := h; rfl) | (obtain ⟨_, h⟩ := h))) (pure_exchange T)
  have G_find_text := ok_find_text (P := P) (w := w) (base := base) T G_find_section (sp := sp_find_text A) (by intro vs H Q E h; unfold sp_find_text at h; repeat (first | (obtain ⟨rfl, _⟩ := h; rfl) | (obtain ⟨_, h⟩ := h))) (pure_find_text T)
  have G_is_label := ok_is_label (P := P) (w := w) (base := base) T G_is_label_byte (sp := sp_is_label K) (by intro vs H Q E h; unfold sp_is_label at h; repeat (first | (obtain ⟨rfl, _⟩ := h; rfl) | (obtain ⟨_, h⟩ := h))) (pure_is_label (K := K) (A := A))
  have G_is_old := ok_is_old (P := P) (w := w) (base := base) T G_is_text (sp := sp_is_old K) (by intro vs H Q E h; unfold sp_is_old at h; repeat (first | (obtain ⟨rfl, _⟩ := h; rfl) | (obtain ⟨_, h⟩ := h))) (pure_is_old (K := K) (A := A))
  have G_new_section := ok_new_section (P := P) (w := w) (base := base) T G_Section_init (sp := sp_new_section A) (by intro vs H Q E h; unfold sp_new_section at h; repeat (first | (obtain ⟨rfl, _⟩ := h; rfl) | (obtain ⟨_, h⟩ := h))) (pure_new_section T)
  have G_read_command := ok_read_command (P := P) (w := w) (base := base) T G_Command_init G_Reader_next_number G_Reader_next_row (sp := sp_read_command K A) (by intro vs H Q E h; unfold sp_read_command at h; repeat (first | (obtain ⟨rfl, _⟩ := h; rfl) | (obtain ⟨_, h⟩ := h))) (pure_read_command T)
  have G_change_word := ok_change_word (P := P) (w := w) (base := base) T G_exchange G_is_short G_places_in G_set_section (sp := sp_change_word A) (by intro vs H Q E h; unfold sp_change_word at h; repeat (first | (obtain ⟨rfl, _⟩ := h; rfl) | (obtain ⟨_, h⟩ := h))) (pure_change_word T)
  have G_follow_label := ok_follow_label (P := P) (w := w) (base := base) T G_exchange G_places_in (sp := sp_follow_label A) (by intro vs H Q E h; unfold sp_follow_label at h; repeat (first | (obtain ⟨rfl, _⟩ := h; rfl) | (obtain ⟨_, h⟩ := h))) (pure_follow_label T)
  have G_in_order := ok_in_order (P := P) (w := w) (base := base) T tb (sp := sp_in_order K A) (by intro vs H Q E h; unfold sp_in_order at h; repeat (first | (obtain ⟨rfl, _⟩ := h; rfl) | (obtain ⟨_, h⟩ := h))) (pure_in_order T)
  have G_is_place := ok_is_place (P := P) (w := w) (base := base) T G_is_label (sp := sp_is_place K) (by intro vs H Q E h; unfold sp_is_place at h; repeat (first | (obtain ⟨rfl, _⟩ := h; rfl) | (obtain ⟨_, h⟩ := h))) (pure_is_place (K := K) (A := A))
  have G_put_section := ok_put_section (P := P) (w := w) (base := base) T G_new_section G_place_of (sp := sp_put_section A) (by intro vs H Q E h; unfold sp_put_section at h; repeat (first | (obtain ⟨rfl, _⟩ := h; rfl) | (obtain ⟨_, h⟩ := h))) (pure_put_section T)
  have G_references_in := ok_references_in (P := P) (w := w) (base := base) T G_is_label (sp := sp_references_in) (by intro vs H Q E h; unfold sp_references_in at h; repeat (first | (obtain ⟨rfl, _⟩ := h; rfl) | (obtain ⟨_, h⟩ := h))) (pure_references_in T)
  have G_Laws_commands_of := ok_Laws_commands_of (P := P) (w := w) (base := base) T G_Record_valid_on G_in_order (sp := sp_Laws_commands_of A) (by intro vs H Q E h; unfold sp_Laws_commands_of at h; repeat (first | (obtain ⟨rfl, _⟩ := h; rfl) | (obtain ⟨_, h⟩ := h))) (pure_Laws_commands_of T)
  have G_change_label := ok_change_label (P := P) (w := w) (base := base) T G_Section_init G_follow_label G_is_short G_place_of G_set_section (sp := sp_change_label A) (by intro vs H Q E h; unfold sp_change_label at h; repeat (first | (obtain ⟨rfl, _⟩ := h; rfl) | (obtain ⟨_, h⟩ := h))) (pure_change_label T)
  have G_is_sound := ok_is_sound (P := P) (w := w) (base := base) T G_is_label G_is_law G_is_old G_is_place G_is_span G_is_text (sp := sp_is_sound A) (by intro vs H Q E h; unfold sp_is_sound at h; repeat (first | (obtain ⟨rfl, _⟩ := h; rfl) | (obtain ⟨_, h⟩ := h))) (pure_is_sound T)
  have G_Record_add_command := ok_Record_add_command (P := P) (w := w) (base := base) T G_Record_keep G_is_sound (sp := sp_Record_add_command A) (by intro vs H Q E h; unfold sp_Record_add_command at h; repeat (first | (obtain ⟨rfl, _⟩ := h; rfl) | (obtain ⟨_, h⟩ := h))) (pure_Record_add_command T)
  have G_effect_of := ok_effect_of (P := P) (w := w) (base := base) T G_change_label G_change_word G_new_section G_place_of G_put_section G_set_section (sp := sp_effect_of A) (by intro vs H Q E h; unfold sp_effect_of at h; repeat (first | (obtain ⟨rfl, _⟩ := h; rfl) | (obtain ⟨_, h⟩ := h))) (pure_effect_of T)
  have G_Course_take_one := ok_Course_take_one (P := P) (w := w) (base := base) T G_Course_sections_now G_Step_init G_effect_of (sp := sp_Course_take_one A) (by intro vs H Q E h; unfold sp_Course_take_one at h; repeat (first | (obtain ⟨rfl, _⟩ := h; rfl) | (obtain ⟨_, h⟩ := h))) (pure_Course_take_one T)
  have G_Course_take_all := ok_Course_take_all (P := P) (w := w) (base := base) T G_Course_keep_same G_Course_sections_now G_Course_take_one (sp := sp_Course_take_all A) (by intro vs H Q E h; unfold sp_Course_take_all at h; repeat (first | (obtain ⟨rfl, _⟩ := h; rfl) | (obtain ⟨_, h⟩ := h))) (pure_Course_take_all T)
  have G_Laws_sections_by := ok_Laws_sections_by (P := P) (w := w) (base := base) T G_Course_take_all G_Laws_course_of G_counting_on (sp := sp_Laws_sections_by A) (by intro vs H Q E h; unfold sp_Laws_sections_by at h; repeat (first | (obtain ⟨rfl, _⟩ := h; rfl) | (obtain ⟨_, h⟩ := h))) (pure_Laws_sections_by T)
  have G_Laws_without_effect := ok_Laws_without_effect (P := P) (w := w) (base := base) T G_Course_take_all G_Course_without_effect G_Laws_course_of G_Record_valid_on G_counting_on G_in_order (sp := sp_Laws_without_effect A) (by intro vs H Q E h; unfold sp_Laws_without_effect at h; repeat (first | (obtain ⟨rfl, _⟩ := h; rfl) | (obtain ⟨_, h⟩ := h))) (pure_Laws_without_effect T)
  have G_Laws_sections_of := ok_Laws_sections_of (P := P) (w := w) (base := base) T G_Laws_commands_of G_Laws_sections_by (sp := sp_Laws_sections_of A) (by intro vs H Q E h; unfold sp_Laws_sections_of at h; repeat (first | (obtain ⟨rfl, _⟩ := h; rfl) | (obtain ⟨_, h⟩ := h))) (pure_Laws_sections_of T)
  have G_tell_idle := ok_tell_idle (P := P) (w := w) (base := base) T G_Laws_without_effect G_is_day (sp := sp_tell_idle A) (by intro vs H Q E h; unfold sp_tell_idle at h; repeat (first | (obtain ⟨rfl, _⟩ := h; rfl) | (obtain ⟨_, h⟩ := h))) (pure_tell_idle T)
  have G_tell_next := ok_tell_next (P := P) (w := w) (base := base) T G_Laws_commands_of G_Laws_sections_by G_days_above G_find_text G_is_askable G_is_label (sp := sp_tell_next A) (by intro vs H Q E h; unfold sp_tell_next at h; repeat (first | (obtain ⟨rfl, _⟩ := h; rfl) | (obtain ⟨_, h⟩ := h))) (pure_tell_next T)
  have G_tell_broken := ok_tell_broken (P := P) (w := w) (base := base) T G_Laws_sections_of G_is_askable G_references_in G_with_size (sp := sp_tell_broken A) (by intro vs H Q E h; unfold sp_tell_broken at h; repeat (first | (obtain ⟨rfl, _⟩ := h; rfl) | (obtain ⟨_, h⟩ := h))) (pure_tell_broken T)
  have G_tell_labels := ok_tell_labels (P := P) (w := w) (base := base) T G_Laws_sections_of G_is_askable G_with_size (sp := sp_tell_labels A) (by intro vs H Q E h; unfold sp_tell_labels at h; repeat (first | (obtain ⟨rfl, _⟩ := h; rfl) | (obtain ⟨_, h⟩ := h))) (pure_tell_labels T)
  have G_tell_origin := ok_tell_origin (P := P) (w := w) (base := base) T G_Laws_sections_of G_find_section G_is_askable G_is_label G_rows_of (sp := sp_tell_origin A) (by intro vs H Q E h; unfold sp_tell_origin at h; repeat (first | (obtain ⟨rfl, _⟩ := h; rfl) | (obtain ⟨_, h⟩ := h))) (pure_tell_origin T)
  have G_tell_read := ok_tell_read (P := P) (w := w) (base := base) T G_Laws_sections_of G_find_section G_is_askable G_is_label (sp := sp_tell_read A) (by intro vs H Q E h; unfold sp_tell_read at h; repeat (first | (obtain ⟨rfl, _⟩ := h; rfl) | (obtain ⟨_, h⟩ := h))) (pure_tell_read T)
  have G_answer_of_law := ok_answer_of_law (P := P) (w := w) (base := base) T G_Reader_next_number G_Reader_next_row G_tell_broken G_tell_labels G_tell_next G_tell_origin G_tell_read (sp := sp_answer_of_law K A) (by intro vs H Q E h; unfold sp_answer_of_law at h; repeat (first | (obtain ⟨rfl, _⟩ := h; rfl) | (obtain ⟨_, h⟩ := h))) (pure_answer_of_law T)
  have G_answer_call := ok_answer_call (P := P) (w := w) (base := base) T G_Laws_begin G_Reader_next_number G_Record_add_act G_Record_add_command G_Record_add_void G_answer_of_law G_read_command G_tell_idle (sp := sp_answer_call K A) (by intro vs H Q E h; unfold sp_answer_call at h; repeat (first | (obtain ⟨rfl, _⟩ := h; rfl) | (obtain ⟨_, h⟩ := h))) (pure_answer_call T)
  have G_answers := ok_answers (P := P) (w := w) (base := base) T G_Laws_init G_Reader_has_more G_Reader_init G_answer_call (sp := spAns A K) (by intro vs H Q E h; unfold spAns at h; repeat (first | (obtain ⟨rfl, _⟩ := h; rfl) | (obtain ⟨_, h⟩ := h))) (pure_answers T)
  exact G_answers
end LD

namespace LD
open PySem PySem.Spec PyProof.Rows L2
open PySem.W (WData Codec OpenSpec WellAll ReadsW)
/-! ### the end of a row whose program has one table of code -/
mutual
theorem dw_more {K : PySem.W.Frag} {H H' : Hp} (m : ∀ b o, H b = some o → H' b = some o) : ∀ (d : WData) (v : V), Dw K H v d → Dw K H' v d
  | .none, _, x => by cases x; exact .non
  | .bool _, _, x => by cases x; exact .bl _
  | .int _, _, x => by cases x; exact .int _
  | .str _, _, x => by cases x; exact .str _
  | .bytes _, _, x => by cases x; exact .byt _
  | .list ds, _, x => by
    cases x with
    | lst q r =>
      refine .lst ?_ (dws_more m ds _ r)
      rcases q with (q | ⟨o, q⟩) | q
      · exact .inl (.inl (m _ _ q))
      · exact .inl (.inr ⟨o, m _ _ q⟩)
      · exact .inr q
  | .tuple ds, _, x => by
    cases x with
    | tup q r =>
      refine .tup ?_ (dws_more m ds _ r)
      rcases q with (q | ⟨o, q⟩) | q
      · exact .inl (.inl (m _ _ q))
      · exact .inl (.inr ⟨o, m _ _ q⟩)
      · exact .inr q
  | .float _, _, x => by cases x
  | .dict _, _, x => by cases x
  | .bytearray _, _, x => by cases x
  | .set _, _, x => by cases x
  | .frozenset _, _, x => by cases x
  | .obj _ _, _, x => by cases x
theorem dws_more {K : PySem.W.Frag} {H H' : Hp} (m : ∀ b o, H b = some o → H' b = some o) : ∀ (ds : List WData) (vs : List V), DwAll K H vs ds → DwAll K H' vs ds
  | [], _, x => by cases x; exact .nil
  | d :: ds, _, x => by
    cases x with
    | cons p q => exact .cons (dw_more m d _ p) (dws_more m ds _ q)
end
/-- the arguments' objects and the empty table -/
def tabH (K : PySem.W.Frag) (h : Heap) (D : List Addr) (t : Addr) : Hp := fun b => if b = t then some (.tbl #[]) else argH K h D b
def emptyTab : Obj := { cls := .none, data := .fields #[] }
/-- what is known of the one code object with a table -/
structure OneTab (K : PySem.W.Frag) (mg : Str → Option Value) (h : Heap) (c t : Addr) : Prop where
  at_ : h.get? t = some emptyTab
  out : K.lookup t = none
  hd : PySem.W.CodeHd h c t
  main : ∃ (bm : Addr) (ob : Obj), mg "__builtins__" = some (.ref bm) ∧ bm ≠ builtinsNs ∧ h.get? bm = some ob ∧ ob.cls = .type "module" ∧ ob.dict = some builtinsNs ∧ ob.data = .plain
section
variable {P : Program} {w : World} {K : PySem.W.Frag} {mg : Str → Option Value} {h : Heap} {D : List Addr} {c t : Addr}
theorem arg_not_tab (ar : ∀ a ∈ D, ArgOb h D a) (O : OneTab K mg h c t) : argH K h D t = none := by
  cases q : argH K h D t with
  | none => rfl
  | some u =>
    obtain ⟨_, vs, _, _, ⟨e, _⟩ | ⟨e, _⟩⟩ := argH_is ar q <;>
    · rw [O.at_] at e
      have z := congrArg Obj.cls (Option.some.inj e)
      cases z
theorem tabH_more (ar : ∀ a ∈ D, ArgOb h D a) (O : OneTab K mg h c t) (b : Addr) (o : HO) (e : argH K h D b = some o) : tabH K h D t b = some o := by
  unfold tabH
  rw [if_neg (fun z => by rw [z, arg_not_tab ar O] at e; cases e)]
  exact e
theorem tabH_at : tabH K h D t t = some (.tbl #[]) := if_pos rfl
theorem tabH_is (b : Addr) (u : HO) (e : tabH K h D t b = some u) : (b = t ∧ u = .tbl #[]) ∨ argH K h D b = some u := by
  unfold tabH at e
  by_cases z : b = t
  · rw [if_pos z] at e
    exact .inl ⟨z, (Option.some.inj e).symm⟩
  · rw [if_neg z] at e
    exact .inr e
theorem tabH_ok (ar : ∀ a ∈ D, ArgOb h D a) (O : OneTab K mg h c t) : HOk P w (tabH K h D t) h := fun b u e => by
  rcases tabH_is b u e with ⟨rfl, rfl⟩ | e
  · exact O.at_
  · obtain ⟨_, vs, n, k, ⟨q, rfl⟩ | ⟨q, rfl⟩⟩ := argH_is ar e
    · exact ⟨q, by rw [List.length_map]; exact n, vs, _, vals_toV k, q⟩
    · exact ⟨q, by rw [List.length_map]; exact n, vs, vals_toV k, _, q, rfl, _, rfl⟩
/-- an object that is no list, no tuple and no table isn't tracked -/
theorem tabH_none (ar : ∀ a ∈ D, ArgOb h D a) (O : OneTab K mg h c t) {b : Addr} {o : Obj} (e : h.get? b = some o) (n1 : ∀ vs n, o.data ≠ .seq vs n) (n2 : o.data ≠ .fields #[]) : tabH K h D t b = none := by
  cases q : tabH K h D t b with
  | none => rfl
  | some u =>
    rcases tabH_is b u q with ⟨rfl, rfl⟩ | q
    · rw [O.at_] at e
      cases e
      exact absurd rfl n2
    · obtain ⟨_, vs, _, _, ⟨r, _⟩ | ⟨r, _⟩⟩ := argH_is ar q <;>
      · rw [r] at e
        cases e
        exact absurd rfl (n1 _ _)
theorem tabH_dict (ar : ∀ a ∈ D, ArgOb h D a) (O : OneTab K mg h c t) {b : Addr} {m : Str → Option Value} (x : h.Ns b m) : (hidT h (tabH K h D t)).Ns b m := by
  obtain ⟨o, es, ep, e, d, r⟩ := x
  exact ⟨o, es, ep, hidT_get e (tabH_none ar O e (fun vs n z => by rw [d] at z; cases z) fun z => by rw [d] at z; cases z), d, r⟩
theorem tabH_frag (ar : ∀ a ∈ D, ArgOb h D a) (O : OneTab K mg h c t) (X : K.In h) : K.In (hidT h (tabH K h D t)) := fun b o e => by
  refine hidT_get (X b o e) ?_
  cases q : tabH K h D t b with
  | none => rfl
  | some u =>
    rcases tabH_is b u q with ⟨rfl, _⟩ | q
    · rw [O.out] at e
      cases e
    · rw [(argH_is ar q).1] at e
      cases e
theorem tabH_tab (ar : ∀ a ∈ D, ArgOb h D a) (O : OneTab K mg h c t) (G : h.Ns mainGlobals mg) : LamX.TabB (hidT h (tabH K h D t)) mg c t := by
  refine ⟨?_, ?_, fun z => ?_⟩
  · obtain ⟨o, us, file, tf, flags, tg, inF, text, tt, e, r1, r2, r3, rest⟩ := O.hd
    refine ⟨o, us, file, tf, flags, tg, inF, text, tt, hidT_get e (tabH_none ar O e (fun vs n z => ?_) fun z => ?_), r1, r2, r3, rest⟩
    · rw [r2] at z; cases z
    · rw [r2] at z; cases z; simp at r3
  · obtain ⟨bm, ob, b1, b2, b3, b4, b5, b6⟩ := O.main
    refine ⟨bm, ob, b1, b2, fun q => ?_, fun q => ?_, hidT_get b3 (tabH_none ar O b3 (fun vs n z => ?_) fun z => ?_), b4, b5, b6⟩
    · obtain ⟨o, es, ep, e, d, _⟩ := G
      rw [q, e] at b3; cases b3
      rw [d] at b6; cases b6
    · rw [q, O.at_] at b3; cases b3
      cases b6
    · rw [b6] at z; cases z
    · rw [b6] at z; cases z
  · obtain ⟨o, es, ep, e, d, _⟩ := G
    rw [z, O.at_] at e; cases e
    cases d
end
theorem handed {P : Program} {w : World} {K : PySem.W.Frag} {mg mb : Str → Option Value} {CX : CXT} {k : Nat} {fa c t : Addr} {fd : FuncData} {ps : List Str} {sp : Sp} {s : Shared} {vals : List Value} {ds : List WData} {R : PySem.W.WRecords} {cl : Str → Option Addr} {d0 : WData}
    (X : K.In s.heap) (G : s.heap.Ns mainGlobals mg) (B : s.heap.Ns builtinsNs mb) (bb : ∀ x : Str, x ≠ "__name__" → mb x = bootBuiltins x) (lim : s.heap.NoLimit) (gens : s.gens = #[]) (O : OneTab K mg s.heap c t)
    (wl : WellAll w.params s.heap vals ds) (pl : plWs ds = true) (wt : ∀ d ∈ ds, d.weight ≤ 1048576) (room : Room k callerA)
    (F : ∀ base : Heap, LamX.TabB base mg c t → FnOk P w K mg base CX k fa fd ps sp) (bd : ∀ (s : Shared) (us : List Value), us.length = ps.length → BindsTo s fd ⟨us, []⟩ (ps.zip us)) (len : ds.length = ps.length)
    (hs : ∀ (H : Hp) (xs : List V), H t = some (.tbl #[]) → DwAll K H xs ds → sp xs H (fun v H' => Dw K H' v d0) fun _ _ _ => False)
    (nx : ∀ H e s', CX [] H s (fun _ _ _ => False) e s' → False) :
    codeAny (model P w) callerA (.call (.ref fa) ⟨vals, []⟩)
      (fun r s' => ∃ u as, r = .ok (.ret u) ∧ ReadsW R cl s'.heap u d0 as ∧ OldK s.heap s'.heap ∧ s'.os = s.os ∧ AllBare s'.gens) s := by
  obtain ⟨D, ou, ar⟩ := area_all ds vals wl pl wt
  have ok0 : HOk P w (tabH K s.heap D t) s.heap := tabH_ok ar O
  have KB := tabH_frag ar O X
  have md : Mod K mg (hidT s.heap (tabH K s.heap D t)) := by
    obtain ⟨mc, l1, l2⟩ := lim
    exact ⟨KB, tabH_dict ar O G, ⟨mb, tabH_dict ar O B, bb⟩, ⟨mc, tabH_dict ar O l1, l2⟩⟩
  have e0 : Env0 P w K mg (hidT s.heap (tabH K s.heap D t)) callerA [] s (tabH K s.heap D t) := by
    refine ⟨rfl, md, fun b o e => of_hidT e, Nat.le_of_eq (hidT_size _ _), trivial, ?_, ok0, .of_eq gens⟩
    intro b hb
    cases (show b ∈ ([] : List Addr) from hb)
  have vl : vals.length = ps.length := (wellAll_len wl).trans len
  have go := (F _ (tabH_tab ar O G)).run callerA [] s _ ⟨vals, []⟩ vals (vals.map toV) _ _ room e0 (bd s vals vl) (vals_toV ou) (hs _ _ tabH_at (dws_more (tabH_more ar O) ds _ (dw_all X ar ds vals wl pl ou)))
  refine codeAny_mono go fun r s' x => ?_
  cases r with
  | error e => exact (nx _ e s' x).elim
  | ok fl =>
    cases fl with
    | next => exact False.elim x
    | brk => exact False.elim x
    | cont => exact False.elim x
    | ret u =>
      obtain ⟨v, H', os, bare, un, ok1, rel, q⟩ := x
      have keep : ∀ b o, b ≠ t → s.heap.get? b = some o → s'.heap.get? b = some o := fun b o nb e => by
        cases z : tabH K s.heap D t b with
        | none =>
          refine un.keep b o e z ?_ (by simp)
          intro z; cases (show b ∈ ([] : List Addr) from z)
        | some y =>
          rcases tabH_is b y z with ⟨z1, _⟩ | z1
          · exact absurd z1 nb
          · obtain ⟨_, vs, _, _, ⟨e1, rfl⟩ | ⟨e1, rfl⟩⟩ := argH_is ar z1 <;>
            · obtain ⟨e2, _⟩ := ok1 b _ (un.frzs b _ _ z)
              rw [e] at e1
              cases e1
              exact e2
      obtain ⟨more, grown⟩ : ∃ more : Array Value, s'.heap.get? t = some { cls := .none, data := .fields more } := by
        obtain ⟨more, z⟩ := un.tbls t #[] tabH_at
        exact ⟨_, ok1 t _ z⟩
      have X' : K.In s'.heap := fun b o e => keep b o (fun z => by rw [z, O.out] at e; cases e) (X b o e)
      obtain ⟨as, rd⟩ := Dw.reads (R := R) (cl := cl) ok1 X' d0 v u q rel
      refine ⟨u, as, rfl, rd, ⟨fun b o e => ?_, fun b o e => ?_⟩, os, bare⟩
      · by_cases z : b = t
        · subst z
          rw [O.at_] at e
          cases e
          exact .inr (.inl ⟨(O.hd.tab O.at_).isCodeTable, rfl, #[], more, rfl, by rw [Array.empty_append]; exact grown⟩)
        · exact .inl (keep b o z e)
      · by_cases z : b = t
        · rw [z]; exact ⟨_, grown⟩
        · exact ⟨o, keep b o z e⟩
/-- the call of a row, its program with one table of code -/
theorem walked {r : OpenSpec} {k : Nat} {q : Program} {loose : List Str} {XP : (Str → Option Value) → Heap → Prop} {YP : World → Heap → Prop} {d : DefRec} {K : Params → PySem.W.Frag} {CX : CXT} {ps : List Str} {α : Type} {sp : α → PySem.W.Frag → Sp} {tb : α → Addr}
    (well : r.wellSaid = true) (len : r.args.length = ps.length) (room : Room k callerA) (hY : ∀ (w : World) (h : Heap), YP w h → (K w.params).In h)
    (F : ∀ (w : World) (s₀ : Shared) (mg mb : Str → Option Value) (fa : Addr) (h : Heap), PySem.W.Ground q loose [] XP w s₀ mg mb h → YP w h → (K w.params).In h → mg d.name = some (.ref fa) →
      ∃ (A : α) (c : Addr) (fd : FuncData), OneTab (K w.params) mg h c (tb A) ∧ (∀ (s : Shared) (us : List Value), us.length = ps.length → BindsTo s fd ⟨us, []⟩ (ps.zip us)) ∧
        ∀ base : Heap, LamX.TabB base mg c (tb A) → FnOk r.prog w (K w.params) mg base CX k fa fd ps (sp A (K w.params)))
    (hs : ∀ (A : α) (K : PySem.W.Frag) (H : Hp) (xs : List V) (a : Codec.denoteAll r.args), H (tb A) = some (.tbl #[]) → Codec.withinAll r.args a = true → Codec.app r.args r.asked a = true →
      DwAll K H xs (Codec.encAll r.args a) → sp A K xs H (fun v H' => Dw K H' v (r.ret.enc (Codec.app r.args r.f a))) fun _ _ _ => False)
    (nx : ∀ (H : Hp) (s : Shared) (e : Value) (s' : Shared), CX [] H s (fun _ _ _ => False) e s' → False) :
    PySem.W.WalkOS q loose XP YP r d [] fun f vs => PySem.call f vs := by
  intro w s₀ s mg mb G Y fa o pm cd doc dV kV ho hd hcd hD hmg hg args vals as pre lay rd wl lo
  obtain ⟨a, da, asked⟩ := PySem.W.os_pre_some pre
  obtain ⟨rfl, within⟩ := Codec.encAll_of_decAll r.args args a da
  have X := hY w _ Y
  obtain ⟨A, c, fd, O, bd, ok⟩ := F w s₀ mg mb fa _ G Y X hmg
  have main := handed (R := []) (cl := classAt s₀.heap) (d0 := r.ret.enc (Codec.app r.args r.f a)) X G.T.g G.T.b G.T.builtins G.T.nolimit hg O wl (pl_encAll _ _) (layable_weight lay) room ok bd
    ((encAll_len _ _).trans len) (fun H xs h1 h2 => hs A _ H xs a h1 within asked h2) fun H e s' => nx H s e s'
  refine PySem.W.enter_call (codeAny_mono main fun res s' x => ?_)
  obtain ⟨u, as', rfl, h1, h2, h3, h4⟩ := x
  refine ⟨.inl ⟨u, _, as', rfl, fun _ => rfl, h1, (OpenSpec.post_iff well within _ _).mpr rfl, fun z => ?_⟩, h2, h3, h4⟩
  cases (show false = true from z)
end LD

namespace LD
open PySem PySem.Spec PyProof.Rows L2
theorem txt_all {K : PySem.W.Frag} {h : Heap} {mg : Str → Option Value} {fa c_Command c_Section c_Step c_Course c_Record c_Laws c_Reader f_is_day f_is_law f_is_span f_is_text_byte f_is_label_byte f_is_label f_is_text f_Command_init f_is_sound f_is_place f_is_old f_Section_init f_new_section f_place_of f_places_in f_exchange f_follow_label f_references_in f_effect_of f_put_section f_set_section f_change_word f_change_label f_is_short f_Step_init f_Course_init f_Course_take_all f_Course_keep_same f_Course_take_one f_Course_sections_now f_Course_without_effect f_Record_init f_Record_add_act f_Record_add_command f_Record_add_void f_Record_keep f_Record_last_act f_Record_is_before_last_act f_Record_known_on f_Record_valid_on f_Laws_init f_Laws_begin f_Laws_course_of f_Laws_commands_of f_Laws_sections_by f_Laws_sections_of f_Laws_without_effect f_in_order f_counting_on f_days_above f_is_askable f_tell_read f_tell_labels f_tell_origin f_tell_idle f_tell_broken f_tell_next f_find_section f_find_text f_with_size f_rows_of f_Reader_init f_Reader_has_more f_Reader_next_number f_Reader_next_row f_answers f_answer_call f_answer_of_law f_read_command kc_in_order tP_in_order : Addr} (X : K.In h) (G : h.Ns mainGlobals mg) (hfa : mg "answers" = some (.ref fa))
    {od_is_day an_is_day : Option Addr} {sl_is_day : Array (Option Value)} {oc_is_day kV_is_day dc_is_day pm_is_day ct_is_day : Value} {cd_is_day : Value}
    {od_is_law an_is_law : Option Addr} {sl_is_law : Array (Option Value)} {oc_is_law kV_is_law dc_is_law pm_is_law ct_is_law : Value} {cd_is_law : Value}
    {od_is_span an_is_span : Option Addr} {sl_is_span : Array (Option Value)} {oc_is_span kV_is_span dc_is_span pm_is_span ct_is_span : Value} {cd_is_span : Value}
    {od_is_text_byte an_is_text_byte : Option Addr} {sl_is_text_byte : Array (Option Value)} {oc_is_text_byte kV_is_text_byte dc_is_text_byte pm_is_text_byte ct_is_text_byte : Value} {cd_is_text_byte : Value}
    {od_is_label_byte an_is_label_byte : Option Addr} {sl_is_label_byte : Array (Option Value)} {oc_is_label_byte kV_is_label_byte dc_is_label_byte pm_is_label_byte ct_is_label_byte : Value} {cd_is_label_byte : Value}
    {od_is_label an_is_label : Option Addr} {sl_is_label : Array (Option Value)} {oc_is_label kV_is_label dc_is_label pm_is_label ct_is_label : Value} {cd_is_label : Value}
    {od_is_text an_is_text : Option Addr} {sl_is_text : Array (Option Value)} {oc_is_text kV_is_text dc_is_text pm_is_text ct_is_text : Value} {cd_is_text : Value}
    {od_Command_init an_Command_init : Option Addr} {sl_Command_init : Array (Option Value)} {oc_Command_init kV_Command_init dc_Command_init pm_Command_init ct_Command_init : Value} {cd_Command_init : Value}
    {od_is_sound an_is_sound : Option Addr} {sl_is_sound : Array (Option Value)} {oc_is_sound kV_is_sound dc_is_sound pm_is_sound ct_is_sound : Value} {cd_is_sound : Value}
    {od_is_place an_is_place : Option Addr} {sl_is_place : Array (Option Value)} {oc_is_place kV_is_place dc_is_place pm_is_place ct_is_place : Value} {cd_is_place : Value}
    {od_is_old an_is_old : Option Addr} {sl_is_old : Array (Option Value)} {oc_is_old kV_is_old dc_is_old pm_is_old ct_is_old : Value} {cd_is_old : Value}
    {od_Section_init an_Section_init : Option Addr} {sl_Section_init : Array (Option Value)} {oc_Section_init kV_Section_init dc_Section_init pm_Section_init ct_Section_init : Value} {cd_Section_init : Value}
    {od_new_section an_new_section : Option Addr} {sl_new_section : Array (Option Value)} {oc_new_section kV_new_section dc_new_section pm_new_section ct_new_section : Value} {cd_new_section : Value}
    {od_place_of an_place_of : Option Addr} {sl_place_of : Array (Option Value)} {oc_place_of kV_place_of dc_place_of pm_place_of ct_place_of : Value} {cd_place_of : Value}
    {od_places_in an_places_in : Option Addr} {sl_places_in : Array (Option Value)} {oc_places_in kV_places_in dc_places_in pm_places_in ct_places_in : Value} {cd_places_in : Value}
    {od_exchange an_exchange : Option Addr} {sl_exchange : Array (Option Value)} {oc_exchange kV_exchange dc_exchange pm_exchange ct_exchange : Value} {cd_exchange : Value}
    {od_follow_label an_follow_label : Option Addr} {sl_follow_label : Array (Option Value)} {oc_follow_label kV_follow_label dc_follow_label pm_follow_label ct_follow_label : Value} {cd_follow_label : Value}
    {od_references_in an_references_in : Option Addr} {sl_references_in : Array (Option Value)} {oc_references_in kV_references_in dc_references_in pm_references_in ct_references_in : Value} {cd_references_in : Value}
    {od_effect_of an_effect_of : Option Addr} {sl_effect_of : Array (Option Value)} {oc_effect_of kV_effect_of dc_effect_of pm_effect_of ct_effect_of : Value} {cd_effect_of : Value}
    {od_put_section an_put_section : Option Addr} {sl_put_section : Array (Option Value)} {oc_put_section kV_put_section dc_put_section pm_put_section ct_put_section : Value} {cd_put_section : Value}
    {od_set_section an_set_section : Option Addr} {sl_set_section : Array (Option Value)} {oc_set_section kV_set_section dc_set_section pm_set_section ct_set_section : Value} {cd_set_section : Value}
    {od_change_word an_change_word : Option Addr} {sl_change_word : Array (Option Value)} {oc_change_word kV_change_word dc_change_word pm_change_word ct_change_word : Value} {cd_change_word : Value}
    {od_change_label an_change_label : Option Addr} {sl_change_label : Array (Option Value)} {oc_change_label kV_change_label dc_change_label pm_change_label ct_change_label : Value} {cd_change_label : Value}
    {od_is_short an_is_short : Option Addr} {sl_is_short : Array (Option Value)} {oc_is_short kV_is_short dc_is_short pm_is_short ct_is_short : Value} {cd_is_short : Value}
    {od_Step_init an_Step_init : Option Addr} {sl_Step_init : Array (Option Value)} {oc_Step_init kV_Step_init dc_Step_init pm_Step_init ct_Step_init : Value} {cd_Step_init : Value}
    {od_Course_init an_Course_init : Option Addr} {sl_Course_init : Array (Option Value)} {oc_Course_init kV_Course_init dc_Course_init pm_Course_init ct_Course_init : Value} {cd_Course_init : Value}
    {od_Course_take_all an_Course_take_all : Option Addr} {sl_Course_take_all : Array (Option Value)} {oc_Course_take_all kV_Course_take_all dc_Course_take_all pm_Course_take_all ct_Course_take_all : Value} {cd_Course_take_all : Value}
    {od_Course_keep_same an_Course_keep_same : Option Addr} {sl_Course_keep_same : Array (Option Value)} {oc_Course_keep_same kV_Course_keep_same dc_Course_keep_same pm_Course_keep_same ct_Course_keep_same : Value} {cd_Course_keep_same : Value}
    {od_Course_take_one an_Course_take_one : Option Addr} {sl_Course_take_one : Array (Option Value)} {oc_Course_take_one kV_Course_take_one dc_Course_take_one pm_Course_take_one ct_Course_take_one : Value} {cd_Course_take_one : Value}
    {od_Course_sections_now an_Course_sections_now : Option Addr} {sl_Course_sections_now : Array (Option Value)} {oc_Course_sections_now kV_Course_sections_now dc_Course_sections_now pm_Course_sections_now ct_Course_sections_now : Value} {cd_Course_sections_now : Value}
    {od_Course_without_effect an_Course_without_effect : Option Addr} {sl_Course_without_effect : Array (Option Value)} {oc_Course_without_effect kV_Course_without_effect dc_Course_without_effect pm_Course_without_effect ct_Course_without_effect : Value} {cd_Course_without_effect : Value}
    {od_Record_init an_Record_init : Option Addr} {sl_Record_init : Array (Option Value)} {oc_Record_init kV_Record_init dc_Record_init pm_Record_init ct_Record_init : Value} {cd_Record_init : Value}
    {od_Record_add_act an_Record_add_act : Option Addr} {sl_Record_add_act : Array (Option Value)} {oc_Record_add_act kV_Record_add_act dc_Record_add_act pm_Record_add_act ct_Record_add_act : Value} {cd_Record_add_act : Value}
    {od_Record_add_command an_Record_add_command : Option Addr} {sl_Record_add_command : Array (Option Value)} {oc_Record_add_command kV_Record_add_command dc_Record_add_command pm_Record_add_command ct_Record_add_command : Value} {cd_Record_add_command : Value}
    {od_Record_add_void an_Record_add_void : Option Addr} {sl_Record_add_void : Array (Option Value)} {oc_Record_add_void kV_Record_add_void dc_Record_add_void pm_Record_add_void ct_Record_add_void : Value} {cd_Record_add_void : Value}
    {od_Record_keep an_Record_keep : Option Addr} {sl_Record_keep : Array (Option Value)} {oc_Record_keep kV_Record_keep dc_Record_keep pm_Record_keep ct_Record_keep : Value} {cd_Record_keep : Value}
    {od_Record_last_act an_Record_last_act : Option Addr} {sl_Record_last_act : Array (Option Value)} {oc_Record_last_act kV_Record_last_act dc_Record_last_act pm_Record_last_act ct_Record_last_act : Value} {cd_Record_last_act : Value}
    {od_Record_is_before_last_act an_Record_is_before_last_act : Option Addr} {sl_Record_is_before_last_act : Array (Option Value)} {oc_Record_is_before_last_act kV_Record_is_before_last_act dc_Record_is_before_last_act pm_Record_is_before_last_act ct_Record_is_before_last_act : Value} {cd_Record_is_before_last_act : Value}
    {od_Record_known_on an_Record_known_on : Option Addr} {sl_Record_known_on : Array (Option Value)} {oc_Record_known_on kV_Record_known_on dc_Record_known_on pm_Record_known_on ct_Record_known_on : Value} {cd_Record_known_on : Value}
    {od_Record_valid_on an_Record_valid_on : Option Addr} {sl_Record_valid_on : Array (Option Value)} {oc_Record_valid_on kV_Record_valid_on dc_Record_valid_on pm_Record_valid_on ct_Record_valid_on : Value} {cd_Record_valid_on : Value}
    {od_Laws_init an_Laws_init : Option Addr} {sl_Laws_init : Array (Option Value)} {oc_Laws_init kV_Laws_init dc_Laws_init pm_Laws_init ct_Laws_init : Value} {cd_Laws_init : Value}
    {od_Laws_begin an_Laws_begin : Option Addr} {sl_Laws_begin : Array (Option Value)} {oc_Laws_begin kV_Laws_begin dc_Laws_begin pm_Laws_begin ct_Laws_begin : Value} {cd_Laws_begin : Value}
    {od_Laws_course_of an_Laws_course_of : Option Addr} {sl_Laws_course_of : Array (Option Value)} {oc_Laws_course_of kV_Laws_course_of dc_Laws_course_of pm_Laws_course_of ct_Laws_course_of : Value} {cd_Laws_course_of : Value}
    {od_Laws_commands_of an_Laws_commands_of : Option Addr} {sl_Laws_commands_of : Array (Option Value)} {oc_Laws_commands_of kV_Laws_commands_of dc_Laws_commands_of pm_Laws_commands_of ct_Laws_commands_of : Value} {cd_Laws_commands_of : Value}
    {od_Laws_sections_by an_Laws_sections_by : Option Addr} {sl_Laws_sections_by : Array (Option Value)} {oc_Laws_sections_by kV_Laws_sections_by dc_Laws_sections_by pm_Laws_sections_by ct_Laws_sections_by : Value} {cd_Laws_sections_by : Value}
    {od_Laws_sections_of an_Laws_sections_of : Option Addr} {sl_Laws_sections_of : Array (Option Value)} {oc_Laws_sections_of kV_Laws_sections_of dc_Laws_sections_of pm_Laws_sections_of ct_Laws_sections_of : Value} {cd_Laws_sections_of : Value}
    {od_Laws_without_effect an_Laws_without_effect : Option Addr} {sl_Laws_without_effect : Array (Option Value)} {oc_Laws_without_effect kV_Laws_without_effect dc_Laws_without_effect pm_Laws_without_effect ct_Laws_without_effect : Value} {cd_Laws_without_effect : Value}
    {od_in_order an_in_order : Option Addr} {sl_in_order : Array (Option Value)} {oc_in_order kV_in_order dc_in_order pm_in_order ct_in_order : Value}
    {x1_in_order : Value} {x2_in_order : Option Addr} {x3_in_order : Array Value} {x4_in_order : Array (Option Value)}
    {od_counting_on an_counting_on : Option Addr} {sl_counting_on : Array (Option Value)} {oc_counting_on kV_counting_on dc_counting_on pm_counting_on ct_counting_on : Value} {cd_counting_on : Value}
    {od_days_above an_days_above : Option Addr} {sl_days_above : Array (Option Value)} {oc_days_above kV_days_above dc_days_above pm_days_above ct_days_above : Value} {cd_days_above : Value}
    {od_is_askable an_is_askable : Option Addr} {sl_is_askable : Array (Option Value)} {oc_is_askable kV_is_askable dc_is_askable pm_is_askable ct_is_askable : Value} {cd_is_askable : Value}
    {od_tell_read an_tell_read : Option Addr} {sl_tell_read : Array (Option Value)} {oc_tell_read kV_tell_read dc_tell_read pm_tell_read ct_tell_read : Value} {cd_tell_read : Value}
    {od_tell_labels an_tell_labels : Option Addr} {sl_tell_labels : Array (Option Value)} {oc_tell_labels kV_tell_labels dc_tell_labels pm_tell_labels ct_tell_labels : Value} {cd_tell_labels : Value}
    {od_tell_origin an_tell_origin : Option Addr} {sl_tell_origin : Array (Option Value)} {oc_tell_origin kV_tell_origin dc_tell_origin pm_tell_origin ct_tell_origin : Value} {cd_tell_origin : Value}
    {od_tell_idle an_tell_idle : Option Addr} {sl_tell_idle : Array (Option Value)} {oc_tell_idle kV_tell_idle dc_tell_idle pm_tell_idle ct_tell_idle : Value} {cd_tell_idle : Value}
    {od_tell_broken an_tell_broken : Option Addr} {sl_tell_broken : Array (Option Value)} {oc_tell_broken kV_tell_broken dc_tell_broken pm_tell_broken ct_tell_broken : Value} {cd_tell_broken : Value}
    {od_tell_next an_tell_next : Option Addr} {sl_tell_next : Array (Option Value)} {oc_tell_next kV_tell_next dc_tell_next pm_tell_next ct_tell_next : Value} {cd_tell_next : Value}
    {od_find_section an_find_section : Option Addr} {sl_find_section : Array (Option Value)} {oc_find_section kV_find_section dc_find_section pm_find_section ct_find_section : Value} {cd_find_section : Value}
    {od_find_text an_find_text : Option Addr} {sl_find_text : Array (Option Value)} {oc_find_text kV_find_text dc_find_text pm_find_text ct_find_text : Value} {cd_find_text : Value}
    {od_with_size an_with_size : Option Addr} {sl_with_size : Array (Option Value)} {oc_with_size kV_with_size dc_with_size pm_with_size ct_with_size : Value} {cd_with_size : Value}
    {od_rows_of an_rows_of : Option Addr} {sl_rows_of : Array (Option Value)} {oc_rows_of kV_rows_of dc_rows_of pm_rows_of ct_rows_of : Value} {cd_rows_of : Value}
    {od_Reader_init an_Reader_init : Option Addr} {sl_Reader_init : Array (Option Value)} {oc_Reader_init kV_Reader_init dc_Reader_init pm_Reader_init ct_Reader_init : Value} {cd_Reader_init : Value}
    {od_Reader_has_more an_Reader_has_more : Option Addr} {sl_Reader_has_more : Array (Option Value)} {oc_Reader_has_more kV_Reader_has_more dc_Reader_has_more pm_Reader_has_more ct_Reader_has_more : Value} {cd_Reader_has_more : Value}
    {od_Reader_next_number an_Reader_next_number : Option Addr} {sl_Reader_next_number : Array (Option Value)} {oc_Reader_next_number kV_Reader_next_number dc_Reader_next_number pm_Reader_next_number ct_Reader_next_number : Value} {cd_Reader_next_number : Value}
    {od_Reader_next_row an_Reader_next_row : Option Addr} {sl_Reader_next_row : Array (Option Value)} {oc_Reader_next_row kV_Reader_next_row dc_Reader_next_row pm_Reader_next_row ct_Reader_next_row : Value} {cd_Reader_next_row : Value}
    {od_answers an_answers : Option Addr} {sl_answers : Array (Option Value)} {oc_answers kV_answers dc_answers pm_answers ct_answers : Value} {cd_answers : Value}
    {od_answer_call an_answer_call : Option Addr} {sl_answer_call : Array (Option Value)} {oc_answer_call kV_answer_call dc_answer_call pm_answer_call ct_answer_call : Value} {cd_answer_call : Value}
    {od_answer_of_law an_answer_of_law : Option Addr} {sl_answer_of_law : Array (Option Value)} {oc_answer_of_law kV_answer_of_law dc_answer_of_law pm_answer_of_law ct_answer_of_law : Value} {cd_answer_of_law : Value}
    {od_read_command an_read_command : Option Addr} {sl_read_command : Array (Option Value)} {oc_read_command kV_read_command dc_read_command pm_read_command ct_read_command : Value} {cd_read_command : Value}
    {t_ACT : Tok}
    {t_BEGIN : Tok}
    {t_BLANK : Tok}
    {t_BROKEN : Tok}
    {t_DONE : Tok}
    {t_FOUND : Tok}
    {t_FULL : Tok}
    {t_IDLE : Tok}
    {t_LABELS : Tok}
    {t_LAST_DAY : Tok}
    {t_LAST_FOLLOW : Tok}
    {t_LAST_LAW : Tok}
    {t_LAST_SIGN : Tok}
    {t_LEFT_BRACKET : Tok}
    {t_MOST_ACTS : Tok}
    {t_MOST_COMMANDS : Tok}
    {t_MOST_LABEL_BYTES : Tok}
    {t_MOST_SECTIONS : Tok}
    {t_MOST_SECTION_BYTES : Tok}
    {t_MOST_TEXT_BYTES : Tok}
    {t_NAME : Tok}
    {t_NONE_LEFT : Tok}
    {t_NO_ACT : Tok}
    {t_NO_SECTION : Tok}
    {t_ORIGIN : Tok}
    {t_PUT : Tok}
    {t_READ : Tok}
    {t_RIGHT_BRACKET : Tok}
    {t_TAKE : Tok}
    {t_TEXT : Tok}
    {t_TOLD : Tok}
    {t_VOID : Tok}
    {t_WORD : Tok}
    {t_WRONG : Tok}
    (a_Command : PySem.W.nsIn K mainGlobals "Command" = some (some (.ref c_Command)))
    (a_Section : PySem.W.nsIn K mainGlobals "Section" = some (some (.ref c_Section)))
    (a_Step : PySem.W.nsIn K mainGlobals "Step" = some (some (.ref c_Step)))
    (a_Course : PySem.W.nsIn K mainGlobals "Course" = some (some (.ref c_Course)))
    (a_Record : PySem.W.nsIn K mainGlobals "Record" = some (some (.ref c_Record)))
    (a_Laws : PySem.W.nsIn K mainGlobals "Laws" = some (some (.ref c_Laws)))
    (a_Reader : PySem.W.nsIn K mainGlobals "Reader" = some (some (.ref c_Reader)))
    (a_is_day : PySem.W.nsIn K mainGlobals "is_day" = some (some (.ref f_is_day)))
    (l_is_day : K.lookup f_is_day = some ⟨oc_is_day, od_is_day, .func (PySem.W.fnOf "is_day" "is_day" (defArgs s_is_day) (defBody s_is_day) (defScope s_is_day) .none kV_is_day dc_is_day pm_is_day an_is_day cd_is_day ct_is_day), sl_is_day⟩)
    (e_is_day : PySem.W.codeIn K cd_is_day "is_day" = true)
    (k_is_day : PySem.W.keepIn K (.ref f_is_day) = true)
    (a_is_law : PySem.W.nsIn K mainGlobals "is_law" = some (some (.ref f_is_law)))
    (l_is_law : K.lookup f_is_law = some ⟨oc_is_law, od_is_law, .func (PySem.W.fnOf "is_law" "is_law" (defArgs s_is_law) (defBody s_is_law) (defScope s_is_law) .none kV_is_law dc_is_law pm_is_law an_is_law cd_is_law ct_is_law), sl_is_law⟩)
    (e_is_law : PySem.W.codeIn K cd_is_law "is_law" = true)
    (k_is_law : PySem.W.keepIn K (.ref f_is_law) = true)
    (a_is_span : PySem.W.nsIn K mainGlobals "is_span" = some (some (.ref f_is_span)))
    (l_is_span : K.lookup f_is_span = some ⟨oc_is_span, od_is_span, .func (PySem.W.fnOf "is_span" "is_span" (defArgs s_is_span) (defBody s_is_span) (defScope s_is_span) .none kV_is_span dc_is_span pm_is_span an_is_span cd_is_span ct_is_span), sl_is_span⟩)
    (e_is_span : PySem.W.codeIn K cd_is_span "is_span" = true)
    (k_is_span : PySem.W.keepIn K (.ref f_is_span) = true)
    (a_is_text_byte : PySem.W.nsIn K mainGlobals "is_text_byte" = some (some (.ref f_is_text_byte)))
    (l_is_text_byte : K.lookup f_is_text_byte = some ⟨oc_is_text_byte, od_is_text_byte, .func (PySem.W.fnOf "is_text_byte" "is_text_byte" (defArgs s_is_text_byte) (defBody s_is_text_byte) (defScope s_is_text_byte) .none kV_is_text_byte dc_is_text_byte pm_is_text_byte an_is_text_byte cd_is_text_byte ct_is_text_byte), sl_is_text_byte⟩)
    (e_is_text_byte : PySem.W.codeIn K cd_is_text_byte "is_text_byte" = true)
    (k_is_text_byte : PySem.W.keepIn K (.ref f_is_text_byte) = true)
    (a_is_label_byte : PySem.W.nsIn K mainGlobals "is_label_byte" = some (some (.ref f_is_label_byte)))
    (l_is_label_byte : K.lookup f_is_label_byte = some ⟨oc_is_label_byte, od_is_label_byte, .func (PySem.W.fnOf "is_label_byte" "is_label_byte" (defArgs s_is_label_byte) (defBody s_is_label_byte) (defScope s_is_label_byte) .none kV_is_label_byte dc_is_label_byte pm_is_label_byte an_is_label_byte cd_is_label_byte ct_is_label_byte), sl_is_label_byte⟩)
    (e_is_label_byte : PySem.W.codeIn K cd_is_label_byte "is_label_byte" = true)
    (k_is_label_byte : PySem.W.keepIn K (.ref f_is_label_byte) = true)
    (a_is_label : PySem.W.nsIn K mainGlobals "is_label" = some (some (.ref f_is_label)))
    (l_is_label : K.lookup f_is_label = some ⟨oc_is_label, od_is_label, .func (PySem.W.fnOf "is_label" "is_label" (defArgs s_is_label) (defBody s_is_label) (defScope s_is_label) .none kV_is_label dc_is_label pm_is_label an_is_label cd_is_label ct_is_label), sl_is_label⟩)
    (e_is_label : PySem.W.codeIn K cd_is_label "is_label" = true)
    (k_is_label : PySem.W.keepIn K (.ref f_is_label) = true)
    (a_is_text : PySem.W.nsIn K mainGlobals "is_text" = some (some (.ref f_is_text)))
    (l_is_text : K.lookup f_is_text = some ⟨oc_is_text, od_is_text, .func (PySem.W.fnOf "is_text" "is_text" (defArgs s_is_text) (defBody s_is_text) (defScope s_is_text) .none kV_is_text dc_is_text pm_is_text an_is_text cd_is_text ct_is_text), sl_is_text⟩)
    (e_is_text : PySem.W.codeIn K cd_is_text "is_text" = true)
    (k_is_text : PySem.W.keepIn K (.ref f_is_text) = true)
    (a_Command_init : PySem.W.findIn K (.ref c_Command) "__init__" = some (some (.ref f_Command_init)))
    (i_Command_init : PySem.W.isFn K (.ref f_Command_init) = true)
    (l_Command_init : K.lookup f_Command_init = some ⟨oc_Command_init, od_Command_init, .func (PySem.W.fnOf "__init__" "Command.__init__" (defArgs s_Command_init) (defBody s_Command_init) (defScope s_Command_init) .none kV_Command_init dc_Command_init pm_Command_init an_Command_init cd_Command_init ct_Command_init), sl_Command_init⟩)
    (e_Command_init : PySem.W.codeIn K cd_Command_init "Command.__init__" = true)
    (k_Command_init : PySem.W.keepIn K (.ref f_Command_init) = true)
    (a_is_sound : PySem.W.nsIn K mainGlobals "is_sound" = some (some (.ref f_is_sound)))
    (l_is_sound : K.lookup f_is_sound = some ⟨oc_is_sound, od_is_sound, .func (PySem.W.fnOf "is_sound" "is_sound" (defArgs s_is_sound) (defBody s_is_sound) (defScope s_is_sound) .none kV_is_sound dc_is_sound pm_is_sound an_is_sound cd_is_sound ct_is_sound), sl_is_sound⟩)
    (e_is_sound : PySem.W.codeIn K cd_is_sound "is_sound" = true)
    (k_is_sound : PySem.W.keepIn K (.ref f_is_sound) = true)
    (a_is_place : PySem.W.nsIn K mainGlobals "is_place" = some (some (.ref f_is_place)))
    (l_is_place : K.lookup f_is_place = some ⟨oc_is_place, od_is_place, .func (PySem.W.fnOf "is_place" "is_place" (defArgs s_is_place) (defBody s_is_place) (defScope s_is_place) .none kV_is_place dc_is_place pm_is_place an_is_place cd_is_place ct_is_place), sl_is_place⟩)
    (e_is_place : PySem.W.codeIn K cd_is_place "is_place" = true)
    (k_is_place : PySem.W.keepIn K (.ref f_is_place) = true)
    (a_is_old : PySem.W.nsIn K mainGlobals "is_old" = some (some (.ref f_is_old)))
    (l_is_old : K.lookup f_is_old = some ⟨oc_is_old, od_is_old, .func (PySem.W.fnOf "is_old" "is_old" (defArgs s_is_old) (defBody s_is_old) (defScope s_is_old) .none kV_is_old dc_is_old pm_is_old an_is_old cd_is_old ct_is_old), sl_is_old⟩)
    (e_is_old : PySem.W.codeIn K cd_is_old "is_old" = true)
    (k_is_old : PySem.W.keepIn K (.ref f_is_old) = true)
    (a_Section_init : PySem.W.findIn K (.ref c_Section) "__init__" = some (some (.ref f_Section_init)))
    (i_Section_init : PySem.W.isFn K (.ref f_Section_init) = true)
    (l_Section_init : K.lookup f_Section_init = some ⟨oc_Section_init, od_Section_init, .func (PySem.W.fnOf "__init__" "Section.__init__" (defArgs s_Section_init) (defBody s_Section_init) (defScope s_Section_init) .none kV_Section_init dc_Section_init pm_Section_init an_Section_init cd_Section_init ct_Section_init), sl_Section_init⟩)
    (e_Section_init : PySem.W.codeIn K cd_Section_init "Section.__init__" = true)
    (k_Section_init : PySem.W.keepIn K (.ref f_Section_init) = true)
    (a_new_section : PySem.W.nsIn K mainGlobals "new_section" = some (some (.ref f_new_section)))
    (l_new_section : K.lookup f_new_section = some ⟨oc_new_section, od_new_section, .func (PySem.W.fnOf "new_section" "new_section" (defArgs s_new_section) (defBody s_new_section) (defScope s_new_section) .none kV_new_section dc_new_section pm_new_section an_new_section cd_new_section ct_new_section), sl_new_section⟩)
    (e_new_section : PySem.W.codeIn K cd_new_section "new_section" = true)
    (k_new_section : PySem.W.keepIn K (.ref f_new_section) = true)
    (a_place_of : PySem.W.nsIn K mainGlobals "place_of" = some (some (.ref f_place_of)))
    (l_place_of : K.lookup f_place_of = some ⟨oc_place_of, od_place_of, .func (PySem.W.fnOf "place_of" "place_of" (defArgs s_place_of) (defBody s_place_of) (defScope s_place_of) .none kV_place_of dc_place_of pm_place_of an_place_of cd_place_of ct_place_of), sl_place_of⟩)
    (e_place_of : PySem.W.codeIn K cd_place_of "place_of" = true)
    (k_place_of : PySem.W.keepIn K (.ref f_place_of) = true)
    (a_places_in : PySem.W.nsIn K mainGlobals "places_in" = some (some (.ref f_places_in)))
    (l_places_in : K.lookup f_places_in = some ⟨oc_places_in, od_places_in, .func (PySem.W.fnOf "places_in" "places_in" (defArgs s_places_in) (defBody s_places_in) (defScope s_places_in) .none kV_places_in dc_places_in pm_places_in an_places_in cd_places_in ct_places_in), sl_places_in⟩)
    (e_places_in : PySem.W.codeIn K cd_places_in "places_in" = true)
    (k_places_in : PySem.W.keepIn K (.ref f_places_in) = true)
    (a_exchange : PySem.W.nsIn K mainGlobals "exchange" = some (some (.ref f_exchange)))
    (l_exchange : K.lookup f_exchange = some ⟨oc_exchange, od_exchange, .func (PySem.W.fnOf "exchange" "exchange" (defArgs s_exchange) (defBody s_exchange) (defScope s_exchange) .none kV_exchange dc_exchange pm_exchange an_exchange cd_exchange ct_exchange), sl_exchange⟩)
    (e_exchange : PySem.W.codeIn K cd_exchange "exchange" = true)
    (k_exchange : PySem.W.keepIn K (.ref f_exchange) = true)
    (a_follow_label : PySem.W.nsIn K mainGlobals "follow_label" = some (some (.ref f_follow_label)))
    (l_follow_label : K.lookup f_follow_label = some ⟨oc_follow_label, od_follow_label, .func (PySem.W.fnOf "follow_label" "follow_label" (defArgs s_follow_label) (defBody s_follow_label) (defScope s_follow_label) .none kV_follow_label dc_follow_label pm_follow_label an_follow_label cd_follow_label ct_follow_label), sl_follow_label⟩)
    (e_follow_label : PySem.W.codeIn K cd_follow_label "follow_label" = true)
    (k_follow_label : PySem.W.keepIn K (.ref f_follow_label) = true)
    (a_references_in : PySem.W.nsIn K mainGlobals "references_in" = some (some (.ref f_references_in)))
    (l_references_in : K.lookup f_references_in = some ⟨oc_references_in, od_references_in, .func (PySem.W.fnOf "references_in" "references_in" (defArgs s_references_in) (defBody s_references_in) (defScope s_references_in) .none kV_references_in dc_references_in pm_references_in an_references_in cd_references_in ct_references_in), sl_references_in⟩)
    (e_references_in : PySem.W.codeIn K cd_references_in "references_in" = true)
    (k_references_in : PySem.W.keepIn K (.ref f_references_in) = true)
    (a_effect_of : PySem.W.nsIn K mainGlobals "effect_of" = some (some (.ref f_effect_of)))
    (l_effect_of : K.lookup f_effect_of = some ⟨oc_effect_of, od_effect_of, .func (PySem.W.fnOf "effect_of" "effect_of" (defArgs s_effect_of) (defBody s_effect_of) (defScope s_effect_of) .none kV_effect_of dc_effect_of pm_effect_of an_effect_of cd_effect_of ct_effect_of), sl_effect_of⟩)
    (e_effect_of : PySem.W.codeIn K cd_effect_of "effect_of" = true)
    (k_effect_of : PySem.W.keepIn K (.ref f_effect_of) = true)
    (a_put_section : PySem.W.nsIn K mainGlobals "put_section" = some (some (.ref f_put_section)))
    (l_put_section : K.lookup f_put_section = some ⟨oc_put_section, od_put_section, .func (PySem.W.fnOf "put_section" "put_section" (defArgs s_put_section) (defBody s_put_section) (defScope s_put_section) .none kV_put_section dc_put_section pm_put_section an_put_section cd_put_section ct_put_section), sl_put_section⟩)
    (e_put_section : PySem.W.codeIn K cd_put_section "put_section" = true)
    (k_put_section : PySem.W.keepIn K (.ref f_put_section) = true)
    (a_set_section : PySem.W.nsIn K mainGlobals "set_section" = some (some (.ref f_set_section)))
    (l_set_section : K.lookup f_set_section = some ⟨oc_set_section, od_set_section, .func (PySem.W.fnOf "set_section" "set_section" (defArgs s_set_section) (defBody s_set_section) (defScope s_set_section) .none kV_set_section dc_set_section pm_set_section an_set_section cd_set_section ct_set_section), sl_set_section⟩)
    (e_set_section : PySem.W.codeIn K cd_set_section "set_section" = true)
    (k_set_section : PySem.W.keepIn K (.ref f_set_section) = true)
    (a_change_word : PySem.W.nsIn K mainGlobals "change_word" = some (some (.ref f_change_word)))
    (l_change_word : K.lookup f_change_word = some ⟨oc_change_word, od_change_word, .func (PySem.W.fnOf "change_word" "change_word" (defArgs s_change_word) (defBody s_change_word) (defScope s_change_word) .none kV_change_word dc_change_word pm_change_word an_change_word cd_change_word ct_change_word), sl_change_word⟩)
    (e_change_word : PySem.W.codeIn K cd_change_word "change_word" = true)
    (k_change_word : PySem.W.keepIn K (.ref f_change_word) = true)
    (a_change_label : PySem.W.nsIn K mainGlobals "change_label" = some (some (.ref f_change_label)))
    (l_change_label : K.lookup f_change_label = some ⟨oc_change_label, od_change_label, .func (PySem.W.fnOf "change_label" "change_label" (defArgs s_change_label) (defBody s_change_label) (defScope s_change_label) .none kV_change_label dc_change_label pm_change_label an_change_label cd_change_label ct_change_label), sl_change_label⟩)
    (e_change_label : PySem.W.codeIn K cd_change_label "change_label" = true)
    (k_change_label : PySem.W.keepIn K (.ref f_change_label) = true)
    (a_is_short : PySem.W.nsIn K mainGlobals "is_short" = some (some (.ref f_is_short)))
    (l_is_short : K.lookup f_is_short = some ⟨oc_is_short, od_is_short, .func (PySem.W.fnOf "is_short" "is_short" (defArgs s_is_short) (defBody s_is_short) (defScope s_is_short) .none kV_is_short dc_is_short pm_is_short an_is_short cd_is_short ct_is_short), sl_is_short⟩)
    (e_is_short : PySem.W.codeIn K cd_is_short "is_short" = true)
    (k_is_short : PySem.W.keepIn K (.ref f_is_short) = true)
    (a_Step_init : PySem.W.findIn K (.ref c_Step) "__init__" = some (some (.ref f_Step_init)))
    (i_Step_init : PySem.W.isFn K (.ref f_Step_init) = true)
    (l_Step_init : K.lookup f_Step_init = some ⟨oc_Step_init, od_Step_init, .func (PySem.W.fnOf "__init__" "Step.__init__" (defArgs s_Step_init) (defBody s_Step_init) (defScope s_Step_init) .none kV_Step_init dc_Step_init pm_Step_init an_Step_init cd_Step_init ct_Step_init), sl_Step_init⟩)
    (e_Step_init : PySem.W.codeIn K cd_Step_init "Step.__init__" = true)
    (k_Step_init : PySem.W.keepIn K (.ref f_Step_init) = true)
    (a_Course_init : PySem.W.findIn K (.ref c_Course) "__init__" = some (some (.ref f_Course_init)))
    (i_Course_init : PySem.W.isFn K (.ref f_Course_init) = true)
    (l_Course_init : K.lookup f_Course_init = some ⟨oc_Course_init, od_Course_init, .func (PySem.W.fnOf "__init__" "Course.__init__" (defArgs s_Course_init) (defBody s_Course_init) (defScope s_Course_init) .none kV_Course_init dc_Course_init pm_Course_init an_Course_init cd_Course_init ct_Course_init), sl_Course_init⟩)
    (e_Course_init : PySem.W.codeIn K cd_Course_init "Course.__init__" = true)
    (k_Course_init : PySem.W.keepIn K (.ref f_Course_init) = true)
    (a_Course_take_all : PySem.W.findIn K (.ref c_Course) "take_all" = some (some (.ref f_Course_take_all)))
    (i_Course_take_all : PySem.W.isFn K (.ref f_Course_take_all) = true)
    (l_Course_take_all : K.lookup f_Course_take_all = some ⟨oc_Course_take_all, od_Course_take_all, .func (PySem.W.fnOf "take_all" "Course.take_all" (defArgs s_Course_take_all) (defBody s_Course_take_all) (defScope s_Course_take_all) .none kV_Course_take_all dc_Course_take_all pm_Course_take_all an_Course_take_all cd_Course_take_all ct_Course_take_all), sl_Course_take_all⟩)
    (e_Course_take_all : PySem.W.codeIn K cd_Course_take_all "Course.take_all" = true)
    (k_Course_take_all : PySem.W.keepIn K (.ref f_Course_take_all) = true)
    (a_Course_keep_same : PySem.W.findIn K (.ref c_Course) "keep_same" = some (some (.ref f_Course_keep_same)))
    (i_Course_keep_same : PySem.W.isFn K (.ref f_Course_keep_same) = true)
    (l_Course_keep_same : K.lookup f_Course_keep_same = some ⟨oc_Course_keep_same, od_Course_keep_same, .func (PySem.W.fnOf "keep_same" "Course.keep_same" (defArgs s_Course_keep_same) (defBody s_Course_keep_same) (defScope s_Course_keep_same) .none kV_Course_keep_same dc_Course_keep_same pm_Course_keep_same an_Course_keep_same cd_Course_keep_same ct_Course_keep_same), sl_Course_keep_same⟩)
    (e_Course_keep_same : PySem.W.codeIn K cd_Course_keep_same "Course.keep_same" = true)
    (k_Course_keep_same : PySem.W.keepIn K (.ref f_Course_keep_same) = true)
    (a_Course_take_one : PySem.W.findIn K (.ref c_Course) "take_one" = some (some (.ref f_Course_take_one)))
    (i_Course_take_one : PySem.W.isFn K (.ref f_Course_take_one) = true)
    (l_Course_take_one : K.lookup f_Course_take_one = some ⟨oc_Course_take_one, od_Course_take_one, .func (PySem.W.fnOf "take_one" "Course.take_one" (defArgs s_Course_take_one) (defBody s_Course_take_one) (defScope s_Course_take_one) .none kV_Course_take_one dc_Course_take_one pm_Course_take_one an_Course_take_one cd_Course_take_one ct_Course_take_one), sl_Course_take_one⟩)
    (e_Course_take_one : PySem.W.codeIn K cd_Course_take_one "Course.take_one" = true)
    (k_Course_take_one : PySem.W.keepIn K (.ref f_Course_take_one) = true)
    (a_Course_sections_now : PySem.W.findIn K (.ref c_Course) "sections_now" = some (some (.ref f_Course_sections_now)))
    (i_Course_sections_now : PySem.W.isFn K (.ref f_Course_sections_now) = true)
    (l_Course_sections_now : K.lookup f_Course_sections_now = some ⟨oc_Course_sections_now, od_Course_sections_now, .func (PySem.W.fnOf "sections_now" "Course.sections_now" (defArgs s_Course_sections_now) (defBody s_Course_sections_now) (defScope s_Course_sections_now) .none kV_Course_sections_now dc_Course_sections_now pm_Course_sections_now an_Course_sections_now cd_Course_sections_now ct_Course_sections_now), sl_Course_sections_now⟩)
    (e_Course_sections_now : PySem.W.codeIn K cd_Course_sections_now "Course.sections_now" = true)
    (k_Course_sections_now : PySem.W.keepIn K (.ref f_Course_sections_now) = true)
    (a_Course_without_effect : PySem.W.findIn K (.ref c_Course) "without_effect" = some (some (.ref f_Course_without_effect)))
    (i_Course_without_effect : PySem.W.isFn K (.ref f_Course_without_effect) = true)
    (l_Course_without_effect : K.lookup f_Course_without_effect = some ⟨oc_Course_without_effect, od_Course_without_effect, .func (PySem.W.fnOf "without_effect" "Course.without_effect" (defArgs s_Course_without_effect) (defBody s_Course_without_effect) (defScope s_Course_without_effect) .none kV_Course_without_effect dc_Course_without_effect pm_Course_without_effect an_Course_without_effect cd_Course_without_effect ct_Course_without_effect), sl_Course_without_effect⟩)
    (e_Course_without_effect : PySem.W.codeIn K cd_Course_without_effect "Course.without_effect" = true)
    (k_Course_without_effect : PySem.W.keepIn K (.ref f_Course_without_effect) = true)
    (a_Record_init : PySem.W.findIn K (.ref c_Record) "__init__" = some (some (.ref f_Record_init)))
    (i_Record_init : PySem.W.isFn K (.ref f_Record_init) = true)
    (l_Record_init : K.lookup f_Record_init = some ⟨oc_Record_init, od_Record_init, .func (PySem.W.fnOf "__init__" "Record.__init__" (defArgs s_Record_init) (defBody s_Record_init) (defScope s_Record_init) .none kV_Record_init dc_Record_init pm_Record_init an_Record_init cd_Record_init ct_Record_init), sl_Record_init⟩)
    (e_Record_init : PySem.W.codeIn K cd_Record_init "Record.__init__" = true)
    (k_Record_init : PySem.W.keepIn K (.ref f_Record_init) = true)
    (a_Record_add_act : PySem.W.findIn K (.ref c_Record) "add_act" = some (some (.ref f_Record_add_act)))
    (i_Record_add_act : PySem.W.isFn K (.ref f_Record_add_act) = true)
    (l_Record_add_act : K.lookup f_Record_add_act = some ⟨oc_Record_add_act, od_Record_add_act, .func (PySem.W.fnOf "add_act" "Record.add_act" (defArgs s_Record_add_act) (defBody s_Record_add_act) (defScope s_Record_add_act) .none kV_Record_add_act dc_Record_add_act pm_Record_add_act an_Record_add_act cd_Record_add_act ct_Record_add_act), sl_Record_add_act⟩)
    (e_Record_add_act : PySem.W.codeIn K cd_Record_add_act "Record.add_act" = true)
    (k_Record_add_act : PySem.W.keepIn K (.ref f_Record_add_act) = true)
    (a_Record_add_command : PySem.W.findIn K (.ref c_Record) "add_command" = some (some (.ref f_Record_add_command)))
    (i_Record_add_command : PySem.W.isFn K (.ref f_Record_add_command) = true)
    (l_Record_add_command : K.lookup f_Record_add_command = some ⟨oc_Record_add_command, od_Record_add_command, .func (PySem.W.fnOf "add_command" "Record.add_command" (defArgs s_Record_add_command) (defBody s_Record_add_command) (defScope s_Record_add_command) .none kV_Record_add_command dc_Record_add_command pm_Record_add_command an_Record_add_command cd_Record_add_command ct_Record_add_command), sl_Record_add_command⟩)
    (e_Record_add_command : PySem.W.codeIn K cd_Record_add_command "Record.add_command" = true)
    (k_Record_add_command : PySem.W.keepIn K (.ref f_Record_add_command) = true)
    (a_Record_add_void : PySem.W.findIn K (.ref c_Record) "add_void" = some (some (.ref f_Record_add_void)))
    (i_Record_add_void : PySem.W.isFn K (.ref f_Record_add_void) = true)
    (l_Record_add_void : K.lookup f_Record_add_void = some ⟨oc_Record_add_void, od_Record_add_void, .func (PySem.W.fnOf "add_void" "Record.add_void" (defArgs s_Record_add_void) (defBody s_Record_add_void) (defScope s_Record_add_void) .none kV_Record_add_void dc_Record_add_void pm_Record_add_void an_Record_add_void cd_Record_add_void ct_Record_add_void), sl_Record_add_void⟩)
    (e_Record_add_void : PySem.W.codeIn K cd_Record_add_void "Record.add_void" = true)
    (k_Record_add_void : PySem.W.keepIn K (.ref f_Record_add_void) = true)
    (a_Record_keep : PySem.W.findIn K (.ref c_Record) "keep" = some (some (.ref f_Record_keep)))
    (i_Record_keep : PySem.W.isFn K (.ref f_Record_keep) = true)
    (l_Record_keep : K.lookup f_Record_keep = some ⟨oc_Record_keep, od_Record_keep, .func (PySem.W.fnOf "keep" "Record.keep" (defArgs s_Record_keep) (defBody s_Record_keep) (defScope s_Record_keep) .none kV_Record_keep dc_Record_keep pm_Record_keep an_Record_keep cd_Record_keep ct_Record_keep), sl_Record_keep⟩)
    (e_Record_keep : PySem.W.codeIn K cd_Record_keep "Record.keep" = true)
    (k_Record_keep : PySem.W.keepIn K (.ref f_Record_keep) = true)
    (a_Record_last_act : PySem.W.findIn K (.ref c_Record) "last_act" = some (some (.ref f_Record_last_act)))
    (i_Record_last_act : PySem.W.isFn K (.ref f_Record_last_act) = true)
    (l_Record_last_act : K.lookup f_Record_last_act = some ⟨oc_Record_last_act, od_Record_last_act, .func (PySem.W.fnOf "last_act" "Record.last_act" (defArgs s_Record_last_act) (defBody s_Record_last_act) (defScope s_Record_last_act) .none kV_Record_last_act dc_Record_last_act pm_Record_last_act an_Record_last_act cd_Record_last_act ct_Record_last_act), sl_Record_last_act⟩)
    (e_Record_last_act : PySem.W.codeIn K cd_Record_last_act "Record.last_act" = true)
    (k_Record_last_act : PySem.W.keepIn K (.ref f_Record_last_act) = true)
    (a_Record_is_before_last_act : PySem.W.findIn K (.ref c_Record) "is_before_last_act" = some (some (.ref f_Record_is_before_last_act)))
    (i_Record_is_before_last_act : PySem.W.isFn K (.ref f_Record_is_before_last_act) = true)
    (l_Record_is_before_last_act : K.lookup f_Record_is_before_last_act = some ⟨oc_Record_is_before_last_act, od_Record_is_before_last_act, .func (PySem.W.fnOf "is_before_last_act" "Record.is_before_last_act" (defArgs s_Record_is_before_last_act) (defBody s_Record_is_before_last_act) (defScope s_Record_is_before_last_act) .none kV_Record_is_before_last_act dc_Record_is_before_last_act pm_Record_is_before_last_act an_Record_is_before_last_act cd_Record_is_before_last_act ct_Record_is_before_last_act), sl_Record_is_before_last_act⟩)
    (e_Record_is_before_last_act : PySem.W.codeIn K cd_Record_is_before_last_act "Record.is_before_last_act" = true)
    (k_Record_is_before_last_act : PySem.W.keepIn K (.ref f_Record_is_before_last_act) = true)
    (a_Record_known_on : PySem.W.findIn K (.ref c_Record) "known_on" = some (some (.ref f_Record_known_on)))
    (i_Record_known_on : PySem.W.isFn K (.ref f_Record_known_on) = true)
    (l_Record_known_on : K.lookup f_Record_known_on = some ⟨oc_Record_known_on, od_Record_known_on, .func (PySem.W.fnOf "known_on" "Record.known_on" (defArgs s_Record_known_on) (defBody s_Record_known_on) (defScope s_Record_known_on) .none kV_Record_known_on dc_Record_known_on pm_Record_known_on an_Record_known_on cd_Record_known_on ct_Record_known_on), sl_Record_known_on⟩)
    (e_Record_known_on : PySem.W.codeIn K cd_Record_known_on "Record.known_on" = true)
    (k_Record_known_on : PySem.W.keepIn K (.ref f_Record_known_on) = true)
    (a_Record_valid_on : PySem.W.findIn K (.ref c_Record) "valid_on" = some (some (.ref f_Record_valid_on)))
    (i_Record_valid_on : PySem.W.isFn K (.ref f_Record_valid_on) = true)
    (l_Record_valid_on : K.lookup f_Record_valid_on = some ⟨oc_Record_valid_on, od_Record_valid_on, .func (PySem.W.fnOf "valid_on" "Record.valid_on" (defArgs s_Record_valid_on) (defBody s_Record_valid_on) (defScope s_Record_valid_on) .none kV_Record_valid_on dc_Record_valid_on pm_Record_valid_on an_Record_valid_on cd_Record_valid_on ct_Record_valid_on), sl_Record_valid_on⟩)
    (e_Record_valid_on : PySem.W.codeIn K cd_Record_valid_on "Record.valid_on" = true)
    (k_Record_valid_on : PySem.W.keepIn K (.ref f_Record_valid_on) = true)
    (a_Laws_init : PySem.W.findIn K (.ref c_Laws) "__init__" = some (some (.ref f_Laws_init)))
    (i_Laws_init : PySem.W.isFn K (.ref f_Laws_init) = true)
    (l_Laws_init : K.lookup f_Laws_init = some ⟨oc_Laws_init, od_Laws_init, .func (PySem.W.fnOf "__init__" "Laws.__init__" (defArgs s_Laws_init) (defBody s_Laws_init) (defScope s_Laws_init) .none kV_Laws_init dc_Laws_init pm_Laws_init an_Laws_init cd_Laws_init ct_Laws_init), sl_Laws_init⟩)
    (e_Laws_init : PySem.W.codeIn K cd_Laws_init "Laws.__init__" = true)
    (k_Laws_init : PySem.W.keepIn K (.ref f_Laws_init) = true)
    (a_Laws_begin : PySem.W.findIn K (.ref c_Laws) "begin" = some (some (.ref f_Laws_begin)))
    (i_Laws_begin : PySem.W.isFn K (.ref f_Laws_begin) = true)
    (l_Laws_begin : K.lookup f_Laws_begin = some ⟨oc_Laws_begin, od_Laws_begin, .func (PySem.W.fnOf "begin" "Laws.begin" (defArgs s_Laws_begin) (defBody s_Laws_begin) (defScope s_Laws_begin) .none kV_Laws_begin dc_Laws_begin pm_Laws_begin an_Laws_begin cd_Laws_begin ct_Laws_begin), sl_Laws_begin⟩)
    (e_Laws_begin : PySem.W.codeIn K cd_Laws_begin "Laws.begin" = true)
    (k_Laws_begin : PySem.W.keepIn K (.ref f_Laws_begin) = true)
    (a_Laws_course_of : PySem.W.findIn K (.ref c_Laws) "course_of" = some (some (.ref f_Laws_course_of)))
    (i_Laws_course_of : PySem.W.isFn K (.ref f_Laws_course_of) = true)
    (l_Laws_course_of : K.lookup f_Laws_course_of = some ⟨oc_Laws_course_of, od_Laws_course_of, .func (PySem.W.fnOf "course_of" "Laws.course_of" (defArgs s_Laws_course_of) (defBody s_Laws_course_of) (defScope s_Laws_course_of) .none kV_Laws_course_of dc_Laws_course_of pm_Laws_course_of an_Laws_course_of cd_Laws_course_of ct_Laws_course_of), sl_Laws_course_of⟩)
    (e_Laws_course_of : PySem.W.codeIn K cd_Laws_course_of "Laws.course_of" = true)
    (k_Laws_course_of : PySem.W.keepIn K (.ref f_Laws_course_of) = true)
    (a_Laws_commands_of : PySem.W.findIn K (.ref c_Laws) "commands_of" = some (some (.ref f_Laws_commands_of)))
    (i_Laws_commands_of : PySem.W.isFn K (.ref f_Laws_commands_of) = true)
    (l_Laws_commands_of : K.lookup f_Laws_commands_of = some ⟨oc_Laws_commands_of, od_Laws_commands_of, .func (PySem.W.fnOf "commands_of" "Laws.commands_of" (defArgs s_Laws_commands_of) (defBody s_Laws_commands_of) (defScope s_Laws_commands_of) .none kV_Laws_commands_of dc_Laws_commands_of pm_Laws_commands_of an_Laws_commands_of cd_Laws_commands_of ct_Laws_commands_of), sl_Laws_commands_of⟩)
    (e_Laws_commands_of : PySem.W.codeIn K cd_Laws_commands_of "Laws.commands_of" = true)
    (k_Laws_commands_of : PySem.W.keepIn K (.ref f_Laws_commands_of) = true)
    (a_Laws_sections_by : PySem.W.findIn K (.ref c_Laws) "sections_by" = some (some (.ref f_Laws_sections_by)))
    (i_Laws_sections_by : PySem.W.isFn K (.ref f_Laws_sections_by) = true)
    (l_Laws_sections_by : K.lookup f_Laws_sections_by = some ⟨oc_Laws_sections_by, od_Laws_sections_by, .func (PySem.W.fnOf "sections_by" "Laws.sections_by" (defArgs s_Laws_sections_by) (defBody s_Laws_sections_by) (defScope s_Laws_sections_by) .none kV_Laws_sections_by dc_Laws_sections_by pm_Laws_sections_by an_Laws_sections_by cd_Laws_sections_by ct_Laws_sections_by), sl_Laws_sections_by⟩)
    (e_Laws_sections_by : PySem.W.codeIn K cd_Laws_sections_by "Laws.sections_by" = true)
    (k_Laws_sections_by : PySem.W.keepIn K (.ref f_Laws_sections_by) = true)
    (a_Laws_sections_of : PySem.W.findIn K (.ref c_Laws) "sections_of" = some (some (.ref f_Laws_sections_of)))
    (i_Laws_sections_of : PySem.W.isFn K (.ref f_Laws_sections_of) = true)
    (l_Laws_sections_of : K.lookup f_Laws_sections_of = some ⟨oc_Laws_sections_of, od_Laws_sections_of, .func (PySem.W.fnOf "sections_of" "Laws.sections_of" (defArgs s_Laws_sections_of) (defBody s_Laws_sections_of) (defScope s_Laws_sections_of) .none kV_Laws_sections_of dc_Laws_sections_of pm_Laws_sections_of an_Laws_sections_of cd_Laws_sections_of ct_Laws_sections_of), sl_Laws_sections_of⟩)
    (e_Laws_sections_of : PySem.W.codeIn K cd_Laws_sections_of "Laws.sections_of" = true)
    (k_Laws_sections_of : PySem.W.keepIn K (.ref f_Laws_sections_of) = true)
    (a_Laws_without_effect : PySem.W.findIn K (.ref c_Laws) "without_effect" = some (some (.ref f_Laws_without_effect)))
    (i_Laws_without_effect : PySem.W.isFn K (.ref f_Laws_without_effect) = true)
    (l_Laws_without_effect : K.lookup f_Laws_without_effect = some ⟨oc_Laws_without_effect, od_Laws_without_effect, .func (PySem.W.fnOf "without_effect" "Laws.without_effect" (defArgs s_Laws_without_effect) (defBody s_Laws_without_effect) (defScope s_Laws_without_effect) .none kV_Laws_without_effect dc_Laws_without_effect pm_Laws_without_effect an_Laws_without_effect cd_Laws_without_effect ct_Laws_without_effect), sl_Laws_without_effect⟩)
    (e_Laws_without_effect : PySem.W.codeIn K cd_Laws_without_effect "Laws.without_effect" = true)
    (k_Laws_without_effect : PySem.W.keepIn K (.ref f_Laws_without_effect) = true)
    (a_in_order : PySem.W.nsIn K mainGlobals "in_order" = some (some (.ref f_in_order)))
    (l_in_order : K.lookup f_in_order = some ⟨oc_in_order, od_in_order, .func (PySem.W.fnOf "in_order" "in_order" (defArgs s_in_order) (defBody s_in_order) (defScope s_in_order) .none kV_in_order dc_in_order pm_in_order an_in_order (.ref kc_in_order) ct_in_order), sl_in_order⟩)
    (e_in_order : PySem.W.codeIn K (.ref kc_in_order) "in_order" = true)
    (k_in_order : PySem.W.keepIn K (.ref f_in_order) = true)
    (c_in_order : K.lookup kc_in_order = some ⟨x1_in_order, x2_in_order, .fields x3_in_order, x4_in_order⟩)
    (p_in_order : (x3_in_order[11]? : Option Value) = some (.ref tP_in_order))
    (o_in_order : K.lookup tP_in_order = none)
    (a_counting_on : PySem.W.nsIn K mainGlobals "counting_on" = some (some (.ref f_counting_on)))
    (l_counting_on : K.lookup f_counting_on = some ⟨oc_counting_on, od_counting_on, .func (PySem.W.fnOf "counting_on" "counting_on" (defArgs s_counting_on) (defBody s_counting_on) (defScope s_counting_on) .none kV_counting_on dc_counting_on pm_counting_on an_counting_on cd_counting_on ct_counting_on), sl_counting_on⟩)
    (e_counting_on : PySem.W.codeIn K cd_counting_on "counting_on" = true)
    (k_counting_on : PySem.W.keepIn K (.ref f_counting_on) = true)
    (a_days_above : PySem.W.nsIn K mainGlobals "days_above" = some (some (.ref f_days_above)))
    (l_days_above : K.lookup f_days_above = some ⟨oc_days_above, od_days_above, .func (PySem.W.fnOf "days_above" "days_above" (defArgs s_days_above) (defBody s_days_above) (defScope s_days_above) .none kV_days_above dc_days_above pm_days_above an_days_above cd_days_above ct_days_above), sl_days_above⟩)
    (e_days_above : PySem.W.codeIn K cd_days_above "days_above" = true)
    (k_days_above : PySem.W.keepIn K (.ref f_days_above) = true)
    (a_is_askable : PySem.W.nsIn K mainGlobals "is_askable" = some (some (.ref f_is_askable)))
    (l_is_askable : K.lookup f_is_askable = some ⟨oc_is_askable, od_is_askable, .func (PySem.W.fnOf "is_askable" "is_askable" (defArgs s_is_askable) (defBody s_is_askable) (defScope s_is_askable) .none kV_is_askable dc_is_askable pm_is_askable an_is_askable cd_is_askable ct_is_askable), sl_is_askable⟩)
    (e_is_askable : PySem.W.codeIn K cd_is_askable "is_askable" = true)
    (k_is_askable : PySem.W.keepIn K (.ref f_is_askable) = true)
    (a_tell_read : PySem.W.nsIn K mainGlobals "tell_read" = some (some (.ref f_tell_read)))
    (l_tell_read : K.lookup f_tell_read = some ⟨oc_tell_read, od_tell_read, .func (PySem.W.fnOf "tell_read" "tell_read" (defArgs s_tell_read) (defBody s_tell_read) (defScope s_tell_read) .none kV_tell_read dc_tell_read pm_tell_read an_tell_read cd_tell_read ct_tell_read), sl_tell_read⟩)
    (e_tell_read : PySem.W.codeIn K cd_tell_read "tell_read" = true)
    (k_tell_read : PySem.W.keepIn K (.ref f_tell_read) = true)
    (a_tell_labels : PySem.W.nsIn K mainGlobals "tell_labels" = some (some (.ref f_tell_labels)))
    (l_tell_labels : K.lookup f_tell_labels = some ⟨oc_tell_labels, od_tell_labels, .func (PySem.W.fnOf "tell_labels" "tell_labels" (defArgs s_tell_labels) (defBody s_tell_labels) (defScope s_tell_labels) .none kV_tell_labels dc_tell_labels pm_tell_labels an_tell_labels cd_tell_labels ct_tell_labels), sl_tell_labels⟩)
    (e_tell_labels : PySem.W.codeIn K cd_tell_labels "tell_labels" = true)
    (k_tell_labels : PySem.W.keepIn K (.ref f_tell_labels) = true)
    (a_tell_origin : PySem.W.nsIn K mainGlobals "tell_origin" = some (some (.ref f_tell_origin)))
    (l_tell_origin : K.lookup f_tell_origin = some ⟨oc_tell_origin, od_tell_origin, .func (PySem.W.fnOf "tell_origin" "tell_origin" (defArgs s_tell_origin) (defBody s_tell_origin) (defScope s_tell_origin) .none kV_tell_origin dc_tell_origin pm_tell_origin an_tell_origin cd_tell_origin ct_tell_origin), sl_tell_origin⟩)
    (e_tell_origin : PySem.W.codeIn K cd_tell_origin "tell_origin" = true)
    (k_tell_origin : PySem.W.keepIn K (.ref f_tell_origin) = true)
    (a_tell_idle : PySem.W.nsIn K mainGlobals "tell_idle" = some (some (.ref f_tell_idle)))
    (l_tell_idle : K.lookup f_tell_idle = some ⟨oc_tell_idle, od_tell_idle, .func (PySem.W.fnOf "tell_idle" "tell_idle" (defArgs s_tell_idle) (defBody s_tell_idle) (defScope s_tell_idle) .none kV_tell_idle dc_tell_idle pm_tell_idle an_tell_idle cd_tell_idle ct_tell_idle), sl_tell_idle⟩)
    (e_tell_idle : PySem.W.codeIn K cd_tell_idle "tell_idle" = true)
    (k_tell_idle : PySem.W.keepIn K (.ref f_tell_idle) = true)
    (a_tell_broken : PySem.W.nsIn K mainGlobals "tell_broken" = some (some (.ref f_tell_broken)))
    (l_tell_broken : K.lookup f_tell_broken = some ⟨oc_tell_broken, od_tell_broken, .func (PySem.W.fnOf "tell_broken" "tell_broken" (defArgs s_tell_broken) (defBody s_tell_broken) (defScope s_tell_broken) .none kV_tell_broken dc_tell_broken pm_tell_broken an_tell_broken cd_tell_broken ct_tell_broken), sl_tell_broken⟩)
    (e_tell_broken : PySem.W.codeIn K cd_tell_broken "tell_broken" = true)
    (k_tell_broken : PySem.W.keepIn K (.ref f_tell_broken) = true)
    (a_tell_next : PySem.W.nsIn K mainGlobals "tell_next" = some (some (.ref f_tell_next)))
    (l_tell_next : K.lookup f_tell_next = some ⟨oc_tell_next, od_tell_next, .func (PySem.W.fnOf "tell_next" "tell_next" (defArgs s_tell_next) (defBody s_tell_next) (defScope s_tell_next) .none kV_tell_next dc_tell_next pm_tell_next an_tell_next cd_tell_next ct_tell_next), sl_tell_next⟩)
    (e_tell_next : PySem.W.codeIn K cd_tell_next "tell_next" = true)
    (k_tell_next : PySem.W.keepIn K (.ref f_tell_next) = true)
    (a_find_section : PySem.W.nsIn K mainGlobals "find_section" = some (some (.ref f_find_section)))
    (l_find_section : K.lookup f_find_section = some ⟨oc_find_section, od_find_section, .func (PySem.W.fnOf "find_section" "find_section" (defArgs s_find_section) (defBody s_find_section) (defScope s_find_section) .none kV_find_section dc_find_section pm_find_section an_find_section cd_find_section ct_find_section), sl_find_section⟩)
    (e_find_section : PySem.W.codeIn K cd_find_section "find_section" = true)
    (k_find_section : PySem.W.keepIn K (.ref f_find_section) = true)
    (a_find_text : PySem.W.nsIn K mainGlobals "find_text" = some (some (.ref f_find_text)))
    (l_find_text : K.lookup f_find_text = some ⟨oc_find_text, od_find_text, .func (PySem.W.fnOf "find_text" "find_text" (defArgs s_find_text) (defBody s_find_text) (defScope s_find_text) .none kV_find_text dc_find_text pm_find_text an_find_text cd_find_text ct_find_text), sl_find_text⟩)
    (e_find_text : PySem.W.codeIn K cd_find_text "find_text" = true)
    (k_find_text : PySem.W.keepIn K (.ref f_find_text) = true)
    (a_with_size : PySem.W.nsIn K mainGlobals "with_size" = some (some (.ref f_with_size)))
    (l_with_size : K.lookup f_with_size = some ⟨oc_with_size, od_with_size, .func (PySem.W.fnOf "with_size" "with_size" (defArgs s_with_size) (defBody s_with_size) (defScope s_with_size) .none kV_with_size dc_with_size pm_with_size an_with_size cd_with_size ct_with_size), sl_with_size⟩)
    (e_with_size : PySem.W.codeIn K cd_with_size "with_size" = true)
    (k_with_size : PySem.W.keepIn K (.ref f_with_size) = true)
    (a_rows_of : PySem.W.nsIn K mainGlobals "rows_of" = some (some (.ref f_rows_of)))
    (l_rows_of : K.lookup f_rows_of = some ⟨oc_rows_of, od_rows_of, .func (PySem.W.fnOf "rows_of" "rows_of" (defArgs s_rows_of) (defBody s_rows_of) (defScope s_rows_of) .none kV_rows_of dc_rows_of pm_rows_of an_rows_of cd_rows_of ct_rows_of), sl_rows_of⟩)
    (e_rows_of : PySem.W.codeIn K cd_rows_of "rows_of" = true)
    (k_rows_of : PySem.W.keepIn K (.ref f_rows_of) = true)
    (a_Reader_init : PySem.W.findIn K (.ref c_Reader) "__init__" = some (some (.ref f_Reader_init)))
    (i_Reader_init : PySem.W.isFn K (.ref f_Reader_init) = true)
    (l_Reader_init : K.lookup f_Reader_init = some ⟨oc_Reader_init, od_Reader_init, .func (PySem.W.fnOf "__init__" "Reader.__init__" (defArgs s_Reader_init) (defBody s_Reader_init) (defScope s_Reader_init) .none kV_Reader_init dc_Reader_init pm_Reader_init an_Reader_init cd_Reader_init ct_Reader_init), sl_Reader_init⟩)
    (e_Reader_init : PySem.W.codeIn K cd_Reader_init "Reader.__init__" = true)
    (k_Reader_init : PySem.W.keepIn K (.ref f_Reader_init) = true)
    (a_Reader_has_more : PySem.W.findIn K (.ref c_Reader) "has_more" = some (some (.ref f_Reader_has_more)))
    (i_Reader_has_more : PySem.W.isFn K (.ref f_Reader_has_more) = true)
    (l_Reader_has_more : K.lookup f_Reader_has_more = some ⟨oc_Reader_has_more, od_Reader_has_more, .func (PySem.W.fnOf "has_more" "Reader.has_more" (defArgs s_Reader_has_more) (defBody s_Reader_has_more) (defScope s_Reader_has_more) .none kV_Reader_has_more dc_Reader_has_more pm_Reader_has_more an_Reader_has_more cd_Reader_has_more ct_Reader_has_more), sl_Reader_has_more⟩)
    (e_Reader_has_more : PySem.W.codeIn K cd_Reader_has_more "Reader.has_more" = true)
    (k_Reader_has_more : PySem.W.keepIn K (.ref f_Reader_has_more) = true)
    (a_Reader_next_number : PySem.W.findIn K (.ref c_Reader) "next_number" = some (some (.ref f_Reader_next_number)))
    (i_Reader_next_number : PySem.W.isFn K (.ref f_Reader_next_number) = true)
    (l_Reader_next_number : K.lookup f_Reader_next_number = some ⟨oc_Reader_next_number, od_Reader_next_number, .func (PySem.W.fnOf "next_number" "Reader.next_number" (defArgs s_Reader_next_number) (defBody s_Reader_next_number) (defScope s_Reader_next_number) .none kV_Reader_next_number dc_Reader_next_number pm_Reader_next_number an_Reader_next_number cd_Reader_next_number ct_Reader_next_number), sl_Reader_next_number⟩)
    (e_Reader_next_number : PySem.W.codeIn K cd_Reader_next_number "Reader.next_number" = true)
    (k_Reader_next_number : PySem.W.keepIn K (.ref f_Reader_next_number) = true)
    (a_Reader_next_row : PySem.W.findIn K (.ref c_Reader) "next_row" = some (some (.ref f_Reader_next_row)))
    (i_Reader_next_row : PySem.W.isFn K (.ref f_Reader_next_row) = true)
    (l_Reader_next_row : K.lookup f_Reader_next_row = some ⟨oc_Reader_next_row, od_Reader_next_row, .func (PySem.W.fnOf "next_row" "Reader.next_row" (defArgs s_Reader_next_row) (defBody s_Reader_next_row) (defScope s_Reader_next_row) .none kV_Reader_next_row dc_Reader_next_row pm_Reader_next_row an_Reader_next_row cd_Reader_next_row ct_Reader_next_row), sl_Reader_next_row⟩)
    (e_Reader_next_row : PySem.W.codeIn K cd_Reader_next_row "Reader.next_row" = true)
    (k_Reader_next_row : PySem.W.keepIn K (.ref f_Reader_next_row) = true)
    (a_answers : PySem.W.nsIn K mainGlobals "answers" = some (some (.ref f_answers)))
    (l_answers : K.lookup f_answers = some ⟨oc_answers, od_answers, .func (PySem.W.fnOf "answers" "answers" (defArgs s_answers) (defBody s_answers) (defScope s_answers) .none kV_answers dc_answers pm_answers an_answers cd_answers ct_answers), sl_answers⟩)
    (e_answers : PySem.W.codeIn K cd_answers "answers" = true)
    (k_answers : PySem.W.keepIn K (.ref f_answers) = true)
    (a_answer_call : PySem.W.nsIn K mainGlobals "answer_call" = some (some (.ref f_answer_call)))
    (l_answer_call : K.lookup f_answer_call = some ⟨oc_answer_call, od_answer_call, .func (PySem.W.fnOf "answer_call" "answer_call" (defArgs s_answer_call) (defBody s_answer_call) (defScope s_answer_call) .none kV_answer_call dc_answer_call pm_answer_call an_answer_call cd_answer_call ct_answer_call), sl_answer_call⟩)
    (e_answer_call : PySem.W.codeIn K cd_answer_call "answer_call" = true)
    (k_answer_call : PySem.W.keepIn K (.ref f_answer_call) = true)
    (a_answer_of_law : PySem.W.nsIn K mainGlobals "answer_of_law" = some (some (.ref f_answer_of_law)))
    (l_answer_of_law : K.lookup f_answer_of_law = some ⟨oc_answer_of_law, od_answer_of_law, .func (PySem.W.fnOf "answer_of_law" "answer_of_law" (defArgs s_answer_of_law) (defBody s_answer_of_law) (defScope s_answer_of_law) .none kV_answer_of_law dc_answer_of_law pm_answer_of_law an_answer_of_law cd_answer_of_law ct_answer_of_law), sl_answer_of_law⟩)
    (e_answer_of_law : PySem.W.codeIn K cd_answer_of_law "answer_of_law" = true)
    (k_answer_of_law : PySem.W.keepIn K (.ref f_answer_of_law) = true)
    (a_read_command : PySem.W.nsIn K mainGlobals "read_command" = some (some (.ref f_read_command)))
    (l_read_command : K.lookup f_read_command = some ⟨oc_read_command, od_read_command, .func (PySem.W.fnOf "read_command" "read_command" (defArgs s_read_command) (defBody s_read_command) (defScope s_read_command) .none kV_read_command dc_read_command pm_read_command an_read_command cd_read_command ct_read_command), sl_read_command⟩)
    (e_read_command : PySem.W.codeIn K cd_read_command "read_command" = true)
    (k_read_command : PySem.W.keepIn K (.ref f_read_command) = true)
    (pg_Command : PySem.W.plainGet K c_Command Str.empty = true)
    (hd_Command : PySem.W.hasDictIn K c_Command = true)
    (po_Command : PySem.W.plainOver K c_Command = true)
    (sa_Command : PySem.W.findIn K (.ref c_Command) "__setattr__" = some (some (.builtin "object.__setattr__")))
    (mk_Command : PySem.W.makesIn K c_Command = true)
    (kc_Command : PySem.W.keepIn K (.ref c_Command) = true)
    (no_Command_kind : PySem.W.findIn K (.ref c_Command) "kind" = some none)
    (no_Command_number : PySem.W.findIn K (.ref c_Command) "number" = some none)
    (no_Command_act : PySem.W.findIn K (.ref c_Command) "act" = some none)
    (no_Command_law : PySem.W.findIn K (.ref c_Command) "law" = some none)
    (no_Command_begins : PySem.W.findIn K (.ref c_Command) "begins" = some none)
    (no_Command_till : PySem.W.findIn K (.ref c_Command) "till" = some none)
    (no_Command_follow : PySem.W.findIn K (.ref c_Command) "follow" = some none)
    (no_Command_target : PySem.W.findIn K (.ref c_Command) "target" = some none)
    (no_Command_after : PySem.W.findIn K (.ref c_Command) "after" = some none)
    (no_Command_label : PySem.W.findIn K (.ref c_Command) "label" = some none)
    (no_Command_old : PySem.W.findIn K (.ref c_Command) "old" = some none)
    (no_Command_to : PySem.W.findIn K (.ref c_Command) "to" = some none)
    (no_Command_text : PySem.W.findIn K (.ref c_Command) "text" = some none)
    (pg_Section : PySem.W.plainGet K c_Section Str.empty = true)
    (hd_Section : PySem.W.hasDictIn K c_Section = true)
    (po_Section : PySem.W.plainOver K c_Section = true)
    (sa_Section : PySem.W.findIn K (.ref c_Section) "__setattr__" = some (some (.builtin "object.__setattr__")))
    (mk_Section : PySem.W.makesIn K c_Section = true)
    (kc_Section : PySem.W.keepIn K (.ref c_Section) = true)
    (no_Section_label : PySem.W.findIn K (.ref c_Section) "label" = some none)
    (no_Section_text : PySem.W.findIn K (.ref c_Section) "text" = some none)
    (no_Section_owners : PySem.W.findIn K (.ref c_Section) "owners" = some none)
    (pg_Step : PySem.W.plainGet K c_Step Str.empty = true)
    (hd_Step : PySem.W.hasDictIn K c_Step = true)
    (po_Step : PySem.W.plainOver K c_Step = true)
    (sa_Step : PySem.W.findIn K (.ref c_Step) "__setattr__" = some (some (.builtin "object.__setattr__")))
    (mk_Step : PySem.W.makesIn K c_Step = true)
    (kc_Step : PySem.W.keepIn K (.ref c_Step) = true)
    (no_Step_number : PySem.W.findIn K (.ref c_Step) "number" = some none)
    (no_Step_has_effect : PySem.W.findIn K (.ref c_Step) "has_effect" = some none)
    (no_Step_sections : PySem.W.findIn K (.ref c_Step) "sections" = some none)
    (pg_Course : PySem.W.plainGet K c_Course Str.empty = true)
    (hd_Course : PySem.W.hasDictIn K c_Course = true)
    (po_Course : PySem.W.plainOver K c_Course = true)
    (sa_Course : PySem.W.findIn K (.ref c_Course) "__setattr__" = some (some (.builtin "object.__setattr__")))
    (mk_Course : PySem.W.makesIn K c_Course = true)
    (kc_Course : PySem.W.keepIn K (.ref c_Course) = true)
    (no_Course_steps : PySem.W.findIn K (.ref c_Course) "steps" = some none)
    (pg_Record : PySem.W.plainGet K c_Record Str.empty = true)
    (hd_Record : PySem.W.hasDictIn K c_Record = true)
    (po_Record : PySem.W.plainOver K c_Record = true)
    (sa_Record : PySem.W.findIn K (.ref c_Record) "__setattr__" = some (some (.builtin "object.__setattr__")))
    (mk_Record : PySem.W.makesIn K c_Record = true)
    (kc_Record : PySem.W.keepIn K (.ref c_Record) = true)
    (no_Record_days : PySem.W.findIn K (.ref c_Record) "days" = some none)
    (no_Record_commands : PySem.W.findIn K (.ref c_Record) "commands" = some none)
    (pg_Laws : PySem.W.plainGet K c_Laws Str.empty = true)
    (hd_Laws : PySem.W.hasDictIn K c_Laws = true)
    (po_Laws : PySem.W.plainOver K c_Laws = true)
    (sa_Laws : PySem.W.findIn K (.ref c_Laws) "__setattr__" = some (some (.builtin "object.__setattr__")))
    (mk_Laws : PySem.W.makesIn K c_Laws = true)
    (kc_Laws : PySem.W.keepIn K (.ref c_Laws) = true)
    (no_Laws_record : PySem.W.findIn K (.ref c_Laws) "record" = some none)
    (no_Laws_courses : PySem.W.findIn K (.ref c_Laws) "courses" = some none)
    (pg_Reader : PySem.W.plainGet K c_Reader Str.empty = true)
    (hd_Reader : PySem.W.hasDictIn K c_Reader = true)
    (po_Reader : PySem.W.plainOver K c_Reader = true)
    (sa_Reader : PySem.W.findIn K (.ref c_Reader) "__setattr__" = some (some (.builtin "object.__setattr__")))
    (mk_Reader : PySem.W.makesIn K c_Reader = true)
    (kc_Reader : PySem.W.keepIn K (.ref c_Reader) = true)
    (no_Reader_numbers : PySem.W.findIn K (.ref c_Reader) "numbers" = some none)
    (no_Reader_place : PySem.W.findIn K (.ref c_Reader) "place" = some none)
    (v_ACT : PySem.W.nsIn K mainGlobals "ACT" = some (some (.int (1) t_ACT)))
    (v_BEGIN : PySem.W.nsIn K mainGlobals "BEGIN" = some (some (.int (0) t_BEGIN)))
    (v_BLANK : PySem.W.nsIn K mainGlobals "BLANK" = some (some (.int (32) t_BLANK)))
    (v_BROKEN : PySem.W.nsIn K mainGlobals "BROKEN" = some (some (.int (12) t_BROKEN)))
    (v_DONE : PySem.W.nsIn K mainGlobals "DONE" = some (some (.int (0) t_DONE)))
    (v_FOUND : PySem.W.nsIn K mainGlobals "FOUND" = some (some (.int (1) t_FOUND)))
    (v_FULL : PySem.W.nsIn K mainGlobals "FULL" = some (some (.int (-28) t_FULL)))
    (v_IDLE : PySem.W.nsIn K mainGlobals "IDLE" = some (some (.int (11) t_IDLE)))
    (v_LABELS : PySem.W.nsIn K mainGlobals "LABELS" = some (some (.int (9) t_LABELS)))
    (v_LAST_DAY : PySem.W.nsIn K mainGlobals "LAST_DAY" = some (some (.int (1048576) t_LAST_DAY)))
    (v_LAST_FOLLOW : PySem.W.nsIn K mainGlobals "LAST_FOLLOW" = some (some (.int (1) t_LAST_FOLLOW)))
    (v_LAST_LAW : PySem.W.nsIn K mainGlobals "LAST_LAW" = some (some (.int (63) t_LAST_LAW)))
    (v_LAST_SIGN : PySem.W.nsIn K mainGlobals "LAST_SIGN" = some (some (.int (126) t_LAST_SIGN)))
    (v_LEFT_BRACKET : PySem.W.nsIn K mainGlobals "LEFT_BRACKET" = some (some (.int (91) t_LEFT_BRACKET)))
    (v_MOST_ACTS : PySem.W.nsIn K mainGlobals "MOST_ACTS" = some (some (.int (512) t_MOST_ACTS)))
    (v_MOST_COMMANDS : PySem.W.nsIn K mainGlobals "MOST_COMMANDS" = some (some (.int (1024) t_MOST_COMMANDS)))
    (v_MOST_LABEL_BYTES : PySem.W.nsIn K mainGlobals "MOST_LABEL_BYTES" = some (some (.int (16) t_MOST_LABEL_BYTES)))
    (v_MOST_SECTIONS : PySem.W.nsIn K mainGlobals "MOST_SECTIONS" = some (some (.int (64) t_MOST_SECTIONS)))
    (v_MOST_SECTION_BYTES : PySem.W.nsIn K mainGlobals "MOST_SECTION_BYTES" = some (some (.int (4096) t_MOST_SECTION_BYTES)))
    (v_MOST_TEXT_BYTES : PySem.W.nsIn K mainGlobals "MOST_TEXT_BYTES" = some (some (.int (1024) t_MOST_TEXT_BYTES)))
    (v_NAME : PySem.W.nsIn K mainGlobals "NAME" = some (some (.int (6) t_NAME)))
    (v_NONE_LEFT : PySem.W.nsIn K mainGlobals "NONE_LEFT" = some (some (.int (0) t_NONE_LEFT)))
    (v_NO_ACT : PySem.W.nsIn K mainGlobals "NO_ACT" = some (some (.int (-2) t_NO_ACT)))
    (v_NO_SECTION : PySem.W.nsIn K mainGlobals "NO_SECTION" = some (some (.int (-2) t_NO_SECTION)))
    (v_ORIGIN : PySem.W.nsIn K mainGlobals "ORIGIN" = some (some (.int (10) t_ORIGIN)))
    (v_PUT : PySem.W.nsIn K mainGlobals "PUT" = some (some (.int (2) t_PUT)))
    (v_READ : PySem.W.nsIn K mainGlobals "READ" = some (some (.int (8) t_READ)))
    (v_RIGHT_BRACKET : PySem.W.nsIn K mainGlobals "RIGHT_BRACKET" = some (some (.int (93) t_RIGHT_BRACKET)))
    (v_TAKE : PySem.W.nsIn K mainGlobals "TAKE" = some (some (.int (3) t_TAKE)))
    (v_TEXT : PySem.W.nsIn K mainGlobals "TEXT" = some (some (.int (4) t_TEXT)))
    (v_TOLD : PySem.W.nsIn K mainGlobals "TOLD" = some (some (.int (0) t_TOLD)))
    (v_VOID : PySem.W.nsIn K mainGlobals "VOID" = some (some (.int (7) t_VOID)))
    (v_WORD : PySem.W.nsIn K mainGlobals "WORD" = some (some (.int (5) t_WORD)))
    (v_WRONG : PySem.W.nsIn K mainGlobals "WRONG" = some (some (.int (-1) t_WRONG)))
    (z_all : PySem.W.nsIn K mainGlobals "all" = some none)
    (z_enumerate : PySem.W.nsIn K mainGlobals "enumerate" = some none)
    (z_len : PySem.W.nsIn K mainGlobals "len" = some none)
    (z_range : PySem.W.nsIn K mainGlobals "range" = some none)
    (z_reversed : PySem.W.nsIn K mainGlobals "reversed" = some none)
    (z_sorted : PySem.W.nsIn K mainGlobals "sorted" = some none)
    : ∃ A : Ad, Txt K mg A ∧ A.f_answers = fa ∧ (∀ (s : Shared) (us : List Value), us.length = (["calls"] : List Str).length → BindsTo s A.d_answers ⟨us, []⟩ ((["calls"] : List Str).zip us)) ∧ PySem.W.tabIn K "in_order" = some (A.k_in_order, A.P_in_order) ∧ K.lookup A.P_in_order = none := by
  have e := hfa.symm.trans (PySem.W.mg_of X G a_answers)
  refine ⟨{
    c_Command := c_Command,
    c_Section := c_Section,
    c_Step := c_Step,
    c_Course := c_Course,
    c_Record := c_Record,
    c_Laws := c_Laws,
    c_Reader := c_Reader,
    f_is_day := f_is_day, d_is_day := PySem.W.fnOf "is_day" "is_day" (defArgs s_is_day) (defBody s_is_day) (defScope s_is_day) .none kV_is_day dc_is_day pm_is_day an_is_day cd_is_day ct_is_day,
    f_is_law := f_is_law, d_is_law := PySem.W.fnOf "is_law" "is_law" (defArgs s_is_law) (defBody s_is_law) (defScope s_is_law) .none kV_is_law dc_is_law pm_is_law an_is_law cd_is_law ct_is_law,
    f_is_span := f_is_span, d_is_span := PySem.W.fnOf "is_span" "is_span" (defArgs s_is_span) (defBody s_is_span) (defScope s_is_span) .none kV_is_span dc_is_span pm_is_span an_is_span cd_is_span ct_is_span,
    f_is_text_byte := f_is_text_byte, d_is_text_byte := PySem.W.fnOf "is_text_byte" "is_text_byte" (defArgs s_is_text_byte) (defBody s_is_text_byte) (defScope s_is_text_byte) .none kV_is_text_byte dc_is_text_byte pm_is_text_byte an_is_text_byte cd_is_text_byte ct_is_text_byte,
    f_is_label_byte := f_is_label_byte, d_is_label_byte := PySem.W.fnOf "is_label_byte" "is_label_byte" (defArgs s_is_label_byte) (defBody s_is_label_byte) (defScope s_is_label_byte) .none kV_is_label_byte dc_is_label_byte pm_is_label_byte an_is_label_byte cd_is_label_byte ct_is_label_byte,
    f_is_label := f_is_label, d_is_label := PySem.W.fnOf "is_label" "is_label" (defArgs s_is_label) (defBody s_is_label) (defScope s_is_label) .none kV_is_label dc_is_label pm_is_label an_is_label cd_is_label ct_is_label,
    f_is_text := f_is_text, d_is_text := PySem.W.fnOf "is_text" "is_text" (defArgs s_is_text) (defBody s_is_text) (defScope s_is_text) .none kV_is_text dc_is_text pm_is_text an_is_text cd_is_text ct_is_text,
    f_Command_init := f_Command_init, d_Command_init := PySem.W.fnOf "__init__" "Command.__init__" (defArgs s_Command_init) (defBody s_Command_init) (defScope s_Command_init) .none kV_Command_init dc_Command_init pm_Command_init an_Command_init cd_Command_init ct_Command_init,
    f_is_sound := f_is_sound, d_is_sound := PySem.W.fnOf "is_sound" "is_sound" (defArgs s_is_sound) (defBody s_is_sound) (defScope s_is_sound) .none kV_is_sound dc_is_sound pm_is_sound an_is_sound cd_is_sound ct_is_sound,
    f_is_place := f_is_place, d_is_place := PySem.W.fnOf "is_place" "is_place" (defArgs s_is_place) (defBody s_is_place) (defScope s_is_place) .none kV_is_place dc_is_place pm_is_place an_is_place cd_is_place ct_is_place,
    f_is_old := f_is_old, d_is_old := PySem.W.fnOf "is_old" "is_old" (defArgs s_is_old) (defBody s_is_old) (defScope s_is_old) .none kV_is_old dc_is_old pm_is_old an_is_old cd_is_old ct_is_old,
    f_Section_init := f_Section_init, d_Section_init := PySem.W.fnOf "__init__" "Section.__init__" (defArgs s_Section_init) (defBody s_Section_init) (defScope s_Section_init) .none kV_Section_init dc_Section_init pm_Section_init an_Section_init cd_Section_init ct_Section_init,
    f_new_section := f_new_section, d_new_section := PySem.W.fnOf "new_section" "new_section" (defArgs s_new_section) (defBody s_new_section) (defScope s_new_section) .none kV_new_section dc_new_section pm_new_section an_new_section cd_new_section ct_new_section,
    f_place_of := f_place_of, d_place_of := PySem.W.fnOf "place_of" "place_of" (defArgs s_place_of) (defBody s_place_of) (defScope s_place_of) .none kV_place_of dc_place_of pm_place_of an_place_of cd_place_of ct_place_of,
    f_places_in := f_places_in, d_places_in := PySem.W.fnOf "places_in" "places_in" (defArgs s_places_in) (defBody s_places_in) (defScope s_places_in) .none kV_places_in dc_places_in pm_places_in an_places_in cd_places_in ct_places_in,
    f_exchange := f_exchange, d_exchange := PySem.W.fnOf "exchange" "exchange" (defArgs s_exchange) (defBody s_exchange) (defScope s_exchange) .none kV_exchange dc_exchange pm_exchange an_exchange cd_exchange ct_exchange,
    f_follow_label := f_follow_label, d_follow_label := PySem.W.fnOf "follow_label" "follow_label" (defArgs s_follow_label) (defBody s_follow_label) (defScope s_follow_label) .none kV_follow_label dc_follow_label pm_follow_label an_follow_label cd_follow_label ct_follow_label,
    f_references_in := f_references_in, d_references_in := PySem.W.fnOf "references_in" "references_in" (defArgs s_references_in) (defBody s_references_in) (defScope s_references_in) .none kV_references_in dc_references_in pm_references_in an_references_in cd_references_in ct_references_in,
    f_effect_of := f_effect_of, d_effect_of := PySem.W.fnOf "effect_of" "effect_of" (defArgs s_effect_of) (defBody s_effect_of) (defScope s_effect_of) .none kV_effect_of dc_effect_of pm_effect_of an_effect_of cd_effect_of ct_effect_of,
    f_put_section := f_put_section, d_put_section := PySem.W.fnOf "put_section" "put_section" (defArgs s_put_section) (defBody s_put_section) (defScope s_put_section) .none kV_put_section dc_put_section pm_put_section an_put_section cd_put_section ct_put_section,
    f_set_section := f_set_section, d_set_section := PySem.W.fnOf "set_section" "set_section" (defArgs s_set_section) (defBody s_set_section) (defScope s_set_section) .none kV_set_section dc_set_section pm_set_section an_set_section cd_set_section ct_set_section,
    f_change_word := f_change_word, d_change_word := PySem.W.fnOf "change_word" "change_word" (defArgs s_change_word) (defBody s_change_word) (defScope s_change_word) .none kV_change_word dc_change_word pm_change_word an_change_word cd_change_word ct_change_word,
    f_change_label := f_change_label, d_change_label := PySem.W.fnOf "change_label" "change_label" (defArgs s_change_label) (defBody s_change_label) (defScope s_change_label) .none kV_change_label dc_change_label pm_change_label an_change_label cd_change_label ct_change_label,
    f_is_short := f_is_short, d_is_short := PySem.W.fnOf "is_short" "is_short" (defArgs s_is_short) (defBody s_is_short) (defScope s_is_short) .none kV_is_short dc_is_short pm_is_short an_is_short cd_is_short ct_is_short,
    f_Step_init := f_Step_init, d_Step_init := PySem.W.fnOf "__init__" "Step.__init__" (defArgs s_Step_init) (defBody s_Step_init) (defScope s_Step_init) .none kV_Step_init dc_Step_init pm_Step_init an_Step_init cd_Step_init ct_Step_init,
    f_Course_init := f_Course_init, d_Course_init := PySem.W.fnOf "__init__" "Course.__init__" (defArgs s_Course_init) (defBody s_Course_init) (defScope s_Course_init) .none kV_Course_init dc_Course_init pm_Course_init an_Course_init cd_Course_init ct_Course_init,
    f_Course_take_all := f_Course_take_all, d_Course_take_all := PySem.W.fnOf "take_all" "Course.take_all" (defArgs s_Course_take_all) (defBody s_Course_take_all) (defScope s_Course_take_all) .none kV_Course_take_all dc_Course_take_all pm_Course_take_all an_Course_take_all cd_Course_take_all ct_Course_take_all,
    f_Course_keep_same := f_Course_keep_same, d_Course_keep_same := PySem.W.fnOf "keep_same" "Course.keep_same" (defArgs s_Course_keep_same) (defBody s_Course_keep_same) (defScope s_Course_keep_same) .none kV_Course_keep_same dc_Course_keep_same pm_Course_keep_same an_Course_keep_same cd_Course_keep_same ct_Course_keep_same,
    f_Course_take_one := f_Course_take_one, d_Course_take_one := PySem.W.fnOf "take_one" "Course.take_one" (defArgs s_Course_take_one) (defBody s_Course_take_one) (defScope s_Course_take_one) .none kV_Course_take_one dc_Course_take_one pm_Course_take_one an_Course_take_one cd_Course_take_one ct_Course_take_one,
    f_Course_sections_now := f_Course_sections_now, d_Course_sections_now := PySem.W.fnOf "sections_now" "Course.sections_now" (defArgs s_Course_sections_now) (defBody s_Course_sections_now) (defScope s_Course_sections_now) .none kV_Course_sections_now dc_Course_sections_now pm_Course_sections_now an_Course_sections_now cd_Course_sections_now ct_Course_sections_now,
    f_Course_without_effect := f_Course_without_effect, d_Course_without_effect := PySem.W.fnOf "without_effect" "Course.without_effect" (defArgs s_Course_without_effect) (defBody s_Course_without_effect) (defScope s_Course_without_effect) .none kV_Course_without_effect dc_Course_without_effect pm_Course_without_effect an_Course_without_effect cd_Course_without_effect ct_Course_without_effect,
    f_Record_init := f_Record_init, d_Record_init := PySem.W.fnOf "__init__" "Record.__init__" (defArgs s_Record_init) (defBody s_Record_init) (defScope s_Record_init) .none kV_Record_init dc_Record_init pm_Record_init an_Record_init cd_Record_init ct_Record_init,
    f_Record_add_act := f_Record_add_act, d_Record_add_act := PySem.W.fnOf "add_act" "Record.add_act" (defArgs s_Record_add_act) (defBody s_Record_add_act) (defScope s_Record_add_act) .none kV_Record_add_act dc_Record_add_act pm_Record_add_act an_Record_add_act cd_Record_add_act ct_Record_add_act,
    f_Record_add_command := f_Record_add_command, d_Record_add_command := PySem.W.fnOf "add_command" "Record.add_command" (defArgs s_Record_add_command) (defBody s_Record_add_command) (defScope s_Record_add_command) .none kV_Record_add_command dc_Record_add_command pm_Record_add_command an_Record_add_command cd_Record_add_command ct_Record_add_command,
    f_Record_add_void := f_Record_add_void, d_Record_add_void := PySem.W.fnOf "add_void" "Record.add_void" (defArgs s_Record_add_void) (defBody s_Record_add_void) (defScope s_Record_add_void) .none kV_Record_add_void dc_Record_add_void pm_Record_add_void an_Record_add_void cd_Record_add_void ct_Record_add_void,
    f_Record_keep := f_Record_keep, d_Record_keep := PySem.W.fnOf "keep" "Record.keep" (defArgs s_Record_keep) (defBody s_Record_keep) (defScope s_Record_keep) .none kV_Record_keep dc_Record_keep pm_Record_keep an_Record_keep cd_Record_keep ct_Record_keep,
    f_Record_last_act := f_Record_last_act, d_Record_last_act := PySem.W.fnOf "last_act" "Record.last_act" (defArgs s_Record_last_act) (defBody s_Record_last_act) (defScope s_Record_last_act) .none kV_Record_last_act dc_Record_last_act pm_Record_last_act an_Record_last_act cd_Record_last_act ct_Record_last_act,
    f_Record_is_before_last_act := f_Record_is_before_last_act, d_Record_is_before_last_act := PySem.W.fnOf "is_before_last_act" "Record.is_before_last_act" (defArgs s_Record_is_before_last_act) (defBody s_Record_is_before_last_act) (defScope s_Record_is_before_last_act) .none kV_Record_is_before_last_act dc_Record_is_before_last_act pm_Record_is_before_last_act an_Record_is_before_last_act cd_Record_is_before_last_act ct_Record_is_before_last_act,
    f_Record_known_on := f_Record_known_on, d_Record_known_on := PySem.W.fnOf "known_on" "Record.known_on" (defArgs s_Record_known_on) (defBody s_Record_known_on) (defScope s_Record_known_on) .none kV_Record_known_on dc_Record_known_on pm_Record_known_on an_Record_known_on cd_Record_known_on ct_Record_known_on,
    f_Record_valid_on := f_Record_valid_on, d_Record_valid_on := PySem.W.fnOf "valid_on" "Record.valid_on" (defArgs s_Record_valid_on) (defBody s_Record_valid_on) (defScope s_Record_valid_on) .none kV_Record_valid_on dc_Record_valid_on pm_Record_valid_on an_Record_valid_on cd_Record_valid_on ct_Record_valid_on,
    f_Laws_init := f_Laws_init, d_Laws_init := PySem.W.fnOf "__init__" "Laws.__init__" (defArgs s_Laws_init) (defBody s_Laws_init) (defScope s_Laws_init) .none kV_Laws_init dc_Laws_init pm_Laws_init an_Laws_init cd_Laws_init ct_Laws_init,
    f_Laws_begin := f_Laws_begin, d_Laws_begin := PySem.W.fnOf "begin" "Laws.begin" (defArgs s_Laws_begin) (defBody s_Laws_begin) (defScope s_Laws_begin) .none kV_Laws_begin dc_Laws_begin pm_Laws_begin an_Laws_begin cd_Laws_begin ct_Laws_begin,
    f_Laws_course_of := f_Laws_course_of, d_Laws_course_of := PySem.W.fnOf "course_of" "Laws.course_of" (defArgs s_Laws_course_of) (defBody s_Laws_course_of) (defScope s_Laws_course_of) .none kV_Laws_course_of dc_Laws_course_of pm_Laws_course_of an_Laws_course_of cd_Laws_course_of ct_Laws_course_of,
    f_Laws_commands_of := f_Laws_commands_of, d_Laws_commands_of := PySem.W.fnOf "commands_of" "Laws.commands_of" (defArgs s_Laws_commands_of) (defBody s_Laws_commands_of) (defScope s_Laws_commands_of) .none kV_Laws_commands_of dc_Laws_commands_of pm_Laws_commands_of an_Laws_commands_of cd_Laws_commands_of ct_Laws_commands_of,
    f_Laws_sections_by := f_Laws_sections_by, d_Laws_sections_by := PySem.W.fnOf "sections_by" "Laws.sections_by" (defArgs s_Laws_sections_by) (defBody s_Laws_sections_by) (defScope s_Laws_sections_by) .none kV_Laws_sections_by dc_Laws_sections_by pm_Laws_sections_by an_Laws_sections_by cd_Laws_sections_by ct_Laws_sections_by,
    f_Laws_sections_of := f_Laws_sections_of, d_Laws_sections_of := PySem.W.fnOf "sections_of" "Laws.sections_of" (defArgs s_Laws_sections_of) (defBody s_Laws_sections_of) (defScope s_Laws_sections_of) .none kV_Laws_sections_of dc_Laws_sections_of pm_Laws_sections_of an_Laws_sections_of cd_Laws_sections_of ct_Laws_sections_of,
    f_Laws_without_effect := f_Laws_without_effect, d_Laws_without_effect := PySem.W.fnOf "without_effect" "Laws.without_effect" (defArgs s_Laws_without_effect) (defBody s_Laws_without_effect) (defScope s_Laws_without_effect) .none kV_Laws_without_effect dc_Laws_without_effect pm_Laws_without_effect an_Laws_without_effect cd_Laws_without_effect ct_Laws_without_effect,
    f_in_order := f_in_order, d_in_order := PySem.W.fnOf "in_order" "in_order" (defArgs s_in_order) (defBody s_in_order) (defScope s_in_order) .none kV_in_order dc_in_order pm_in_order an_in_order (.ref kc_in_order) ct_in_order,
    f_counting_on := f_counting_on, d_counting_on := PySem.W.fnOf "counting_on" "counting_on" (defArgs s_counting_on) (defBody s_counting_on) (defScope s_counting_on) .none kV_counting_on dc_counting_on pm_counting_on an_counting_on cd_counting_on ct_counting_on,
    f_days_above := f_days_above, d_days_above := PySem.W.fnOf "days_above" "days_above" (defArgs s_days_above) (defBody s_days_above) (defScope s_days_above) .none kV_days_above dc_days_above pm_days_above an_days_above cd_days_above ct_days_above,
    f_is_askable := f_is_askable, d_is_askable := PySem.W.fnOf "is_askable" "is_askable" (defArgs s_is_askable) (defBody s_is_askable) (defScope s_is_askable) .none kV_is_askable dc_is_askable pm_is_askable an_is_askable cd_is_askable ct_is_askable,
    f_tell_read := f_tell_read, d_tell_read := PySem.W.fnOf "tell_read" "tell_read" (defArgs s_tell_read) (defBody s_tell_read) (defScope s_tell_read) .none kV_tell_read dc_tell_read pm_tell_read an_tell_read cd_tell_read ct_tell_read,
    f_tell_labels := f_tell_labels, d_tell_labels := PySem.W.fnOf "tell_labels" "tell_labels" (defArgs s_tell_labels) (defBody s_tell_labels) (defScope s_tell_labels) .none kV_tell_labels dc_tell_labels pm_tell_labels an_tell_labels cd_tell_labels ct_tell_labels,
    f_tell_origin := f_tell_origin, d_tell_origin := PySem.W.fnOf "tell_origin" "tell_origin" (defArgs s_tell_origin) (defBody s_tell_origin) (defScope s_tell_origin) .none kV_tell_origin dc_tell_origin pm_tell_origin an_tell_origin cd_tell_origin ct_tell_origin,
    f_tell_idle := f_tell_idle, d_tell_idle := PySem.W.fnOf "tell_idle" "tell_idle" (defArgs s_tell_idle) (defBody s_tell_idle) (defScope s_tell_idle) .none kV_tell_idle dc_tell_idle pm_tell_idle an_tell_idle cd_tell_idle ct_tell_idle,
    f_tell_broken := f_tell_broken, d_tell_broken := PySem.W.fnOf "tell_broken" "tell_broken" (defArgs s_tell_broken) (defBody s_tell_broken) (defScope s_tell_broken) .none kV_tell_broken dc_tell_broken pm_tell_broken an_tell_broken cd_tell_broken ct_tell_broken,
    f_tell_next := f_tell_next, d_tell_next := PySem.W.fnOf "tell_next" "tell_next" (defArgs s_tell_next) (defBody s_tell_next) (defScope s_tell_next) .none kV_tell_next dc_tell_next pm_tell_next an_tell_next cd_tell_next ct_tell_next,
    f_find_section := f_find_section, d_find_section := PySem.W.fnOf "find_section" "find_section" (defArgs s_find_section) (defBody s_find_section) (defScope s_find_section) .none kV_find_section dc_find_section pm_find_section an_find_section cd_find_section ct_find_section,
    f_find_text := f_find_text, d_find_text := PySem.W.fnOf "find_text" "find_text" (defArgs s_find_text) (defBody s_find_text) (defScope s_find_text) .none kV_find_text dc_find_text pm_find_text an_find_text cd_find_text ct_find_text,
    f_with_size := f_with_size, d_with_size := PySem.W.fnOf "with_size" "with_size" (defArgs s_with_size) (defBody s_with_size) (defScope s_with_size) .none kV_with_size dc_with_size pm_with_size an_with_size cd_with_size ct_with_size,
    f_rows_of := f_rows_of, d_rows_of := PySem.W.fnOf "rows_of" "rows_of" (defArgs s_rows_of) (defBody s_rows_of) (defScope s_rows_of) .none kV_rows_of dc_rows_of pm_rows_of an_rows_of cd_rows_of ct_rows_of,
    f_Reader_init := f_Reader_init, d_Reader_init := PySem.W.fnOf "__init__" "Reader.__init__" (defArgs s_Reader_init) (defBody s_Reader_init) (defScope s_Reader_init) .none kV_Reader_init dc_Reader_init pm_Reader_init an_Reader_init cd_Reader_init ct_Reader_init,
    f_Reader_has_more := f_Reader_has_more, d_Reader_has_more := PySem.W.fnOf "has_more" "Reader.has_more" (defArgs s_Reader_has_more) (defBody s_Reader_has_more) (defScope s_Reader_has_more) .none kV_Reader_has_more dc_Reader_has_more pm_Reader_has_more an_Reader_has_more cd_Reader_has_more ct_Reader_has_more,
    f_Reader_next_number := f_Reader_next_number, d_Reader_next_number := PySem.W.fnOf "next_number" "Reader.next_number" (defArgs s_Reader_next_number) (defBody s_Reader_next_number) (defScope s_Reader_next_number) .none kV_Reader_next_number dc_Reader_next_number pm_Reader_next_number an_Reader_next_number cd_Reader_next_number ct_Reader_next_number,
    f_Reader_next_row := f_Reader_next_row, d_Reader_next_row := PySem.W.fnOf "next_row" "Reader.next_row" (defArgs s_Reader_next_row) (defBody s_Reader_next_row) (defScope s_Reader_next_row) .none kV_Reader_next_row dc_Reader_next_row pm_Reader_next_row an_Reader_next_row cd_Reader_next_row ct_Reader_next_row,
    f_answers := f_answers, d_answers := PySem.W.fnOf "answers" "answers" (defArgs s_answers) (defBody s_answers) (defScope s_answers) .none kV_answers dc_answers pm_answers an_answers cd_answers ct_answers,
    f_answer_call := f_answer_call, d_answer_call := PySem.W.fnOf "answer_call" "answer_call" (defArgs s_answer_call) (defBody s_answer_call) (defScope s_answer_call) .none kV_answer_call dc_answer_call pm_answer_call an_answer_call cd_answer_call ct_answer_call,
    f_answer_of_law := f_answer_of_law, d_answer_of_law := PySem.W.fnOf "answer_of_law" "answer_of_law" (defArgs s_answer_of_law) (defBody s_answer_of_law) (defScope s_answer_of_law) .none kV_answer_of_law dc_answer_of_law pm_answer_of_law an_answer_of_law cd_answer_of_law ct_answer_of_law,
    f_read_command := f_read_command, d_read_command := PySem.W.fnOf "read_command" "read_command" (defArgs s_read_command) (defBody s_read_command) (defScope s_read_command) .none kV_read_command dc_read_command pm_read_command an_read_command cd_read_command ct_read_command,
    k_in_order := kc_in_order, P_in_order := tP_in_order
  }, {
    cl_Command := ⟨pg_Command, hd_Command, po_Command, sa_Command⟩,
    g_Command := PySem.W.mg_of X G a_Command,
    mk_Command := ⟨mk_Command, a_Command_init, i_Command_init, kc_Command⟩,
    no_Command_kind := no_Command_kind,
    no_Command_number := no_Command_number,
    no_Command_act := no_Command_act,
    no_Command_law := no_Command_law,
    no_Command_begins := no_Command_begins,
    no_Command_till := no_Command_till,
    no_Command_follow := no_Command_follow,
    no_Command_target := no_Command_target,
    no_Command_after := no_Command_after,
    no_Command_label := no_Command_label,
    no_Command_old := no_Command_old,
    no_Command_to := no_Command_to,
    no_Command_text := no_Command_text,
    cl_Section := ⟨pg_Section, hd_Section, po_Section, sa_Section⟩,
    g_Section := PySem.W.mg_of X G a_Section,
    mk_Section := ⟨mk_Section, a_Section_init, i_Section_init, kc_Section⟩,
    no_Section_label := no_Section_label,
    no_Section_text := no_Section_text,
    no_Section_owners := no_Section_owners,
    cl_Step := ⟨pg_Step, hd_Step, po_Step, sa_Step⟩,
    g_Step := PySem.W.mg_of X G a_Step,
    mk_Step := ⟨mk_Step, a_Step_init, i_Step_init, kc_Step⟩,
    no_Step_number := no_Step_number,
    no_Step_has_effect := no_Step_has_effect,
    no_Step_sections := no_Step_sections,
    cl_Course := ⟨pg_Course, hd_Course, po_Course, sa_Course⟩,
    g_Course := PySem.W.mg_of X G a_Course,
    mk_Course := ⟨mk_Course, a_Course_init, i_Course_init, kc_Course⟩,
    no_Course_steps := no_Course_steps,
    cl_Record := ⟨pg_Record, hd_Record, po_Record, sa_Record⟩,
    g_Record := PySem.W.mg_of X G a_Record,
    mk_Record := ⟨mk_Record, a_Record_init, i_Record_init, kc_Record⟩,
    no_Record_days := no_Record_days,
    no_Record_commands := no_Record_commands,
    cl_Laws := ⟨pg_Laws, hd_Laws, po_Laws, sa_Laws⟩,
    g_Laws := PySem.W.mg_of X G a_Laws,
    mk_Laws := ⟨mk_Laws, a_Laws_init, i_Laws_init, kc_Laws⟩,
    no_Laws_record := no_Laws_record,
    no_Laws_courses := no_Laws_courses,
    cl_Reader := ⟨pg_Reader, hd_Reader, po_Reader, sa_Reader⟩,
    g_Reader := PySem.W.mg_of X G a_Reader,
    mk_Reader := ⟨mk_Reader, a_Reader_init, i_Reader_init, kc_Reader⟩,
    no_Reader_numbers := no_Reader_numbers,
    no_Reader_place := no_Reader_place,
    n_is_day := fun_mk (st := s_is_day) l_is_day e_is_day k_is_day,
    b_is_day := (fun_mk (st := s_is_day) l_is_day e_is_day k_is_day).binds (ps := ["day"]) fun _ _ _ _ _ _ us hl => match us, hl with | [_], _ => rfl,
    g_is_day := PySem.W.mg_of X G a_is_day,
    n_is_law := fun_mk (st := s_is_law) l_is_law e_is_law k_is_law,
    b_is_law := (fun_mk (st := s_is_law) l_is_law e_is_law k_is_law).binds (ps := ["law"]) fun _ _ _ _ _ _ us hl => match us, hl with | [_], _ => rfl,
    g_is_law := PySem.W.mg_of X G a_is_law,
    n_is_span := fun_mk (st := s_is_span) l_is_span e_is_span k_is_span,
    b_is_span := (fun_mk (st := s_is_span) l_is_span e_is_span k_is_span).binds (ps := ["begins", "till"]) fun _ _ _ _ _ _ us hl => match us, hl with | [_, _], _ => rfl,
    g_is_span := PySem.W.mg_of X G a_is_span,
    n_is_text_byte := fun_mk (st := s_is_text_byte) l_is_text_byte e_is_text_byte k_is_text_byte,
    b_is_text_byte := (fun_mk (st := s_is_text_byte) l_is_text_byte e_is_text_byte k_is_text_byte).binds (ps := ["byte"]) fun _ _ _ _ _ _ us hl => match us, hl with | [_], _ => rfl,
    g_is_text_byte := PySem.W.mg_of X G a_is_text_byte,
    n_is_label_byte := fun_mk (st := s_is_label_byte) l_is_label_byte e_is_label_byte k_is_label_byte,
    b_is_label_byte := (fun_mk (st := s_is_label_byte) l_is_label_byte e_is_label_byte k_is_label_byte).binds (ps := ["byte"]) fun _ _ _ _ _ _ us hl => match us, hl with | [_], _ => rfl,
    g_is_label_byte := PySem.W.mg_of X G a_is_label_byte,
    n_is_label := fun_mk (st := s_is_label) l_is_label e_is_label k_is_label,
    b_is_label := (fun_mk (st := s_is_label) l_is_label e_is_label k_is_label).binds (ps := ["row"]) fun _ _ _ _ _ _ us hl => match us, hl with | [_], _ => rfl,
    g_is_label := PySem.W.mg_of X G a_is_label,
    n_is_text := fun_mk (st := s_is_text) l_is_text e_is_text k_is_text,
    b_is_text := (fun_mk (st := s_is_text) l_is_text e_is_text k_is_text).binds (ps := ["row"]) fun _ _ _ _ _ _ us hl => match us, hl with | [_], _ => rfl,
    g_is_text := PySem.W.mg_of X G a_is_text,
    n_Command_init := fun_mk (st := s_Command_init) l_Command_init e_Command_init k_Command_init,
    b_Command_init := (fun_mk (st := s_Command_init) l_Command_init e_Command_init k_Command_init).binds (ps := ["self", "kind"]) fun _ _ _ _ _ _ us hl => match us, hl with | [_, _], _ => rfl,
    n_is_sound := fun_mk (st := s_is_sound) l_is_sound e_is_sound k_is_sound,
    b_is_sound := (fun_mk (st := s_is_sound) l_is_sound e_is_sound k_is_sound).binds (ps := ["command"]) fun _ _ _ _ _ _ us hl => match us, hl with | [_], _ => rfl,
    g_is_sound := PySem.W.mg_of X G a_is_sound,
    n_is_place := fun_mk (st := s_is_place) l_is_place e_is_place k_is_place,
    b_is_place := (fun_mk (st := s_is_place) l_is_place e_is_place k_is_place).binds (ps := ["after"]) fun _ _ _ _ _ _ us hl => match us, hl with | [_], _ => rfl,
    g_is_place := PySem.W.mg_of X G a_is_place,
    n_is_old := fun_mk (st := s_is_old) l_is_old e_is_old k_is_old,
    b_is_old := (fun_mk (st := s_is_old) l_is_old e_is_old k_is_old).binds (ps := ["old"]) fun _ _ _ _ _ _ us hl => match us, hl with | [_], _ => rfl,
    g_is_old := PySem.W.mg_of X G a_is_old,
    n_Section_init := fun_mk (st := s_Section_init) l_Section_init e_Section_init k_Section_init,
    b_Section_init := (fun_mk (st := s_Section_init) l_Section_init e_Section_init k_Section_init).binds (ps := ["self", "label", "text", "owners"]) fun _ _ _ _ _ _ us hl => match us, hl with | [_, _, _, _], _ => rfl,
    n_new_section := fun_mk (st := s_new_section) l_new_section e_new_section k_new_section,
    b_new_section := (fun_mk (st := s_new_section) l_new_section e_new_section k_new_section).binds (ps := ["label", "text", "owner"]) fun _ _ _ _ _ _ us hl => match us, hl with | [_, _, _], _ => rfl,
    g_new_section := PySem.W.mg_of X G a_new_section,
    n_place_of := fun_mk (st := s_place_of) l_place_of e_place_of k_place_of,
    b_place_of := (fun_mk (st := s_place_of) l_place_of e_place_of k_place_of).binds (ps := ["sections", "label"]) fun _ _ _ _ _ _ us hl => match us, hl with | [_, _], _ => rfl,
    g_place_of := PySem.W.mg_of X G a_place_of,
    n_places_in := fun_mk (st := s_places_in) l_places_in e_places_in k_places_in,
    b_places_in := (fun_mk (st := s_places_in) l_places_in e_places_in k_places_in).binds (ps := ["text", "row"]) fun _ _ _ _ _ _ us hl => match us, hl with | [_, _], _ => rfl,
    g_places_in := PySem.W.mg_of X G a_places_in,
    n_exchange := fun_mk (st := s_exchange) l_exchange e_exchange k_exchange,
    b_exchange := (fun_mk (st := s_exchange) l_exchange e_exchange k_exchange).binds (ps := ["section", "places", "size", "row", "owner"]) fun _ _ _ _ _ _ us hl => match us, hl with | [_, _, _, _, _], _ => rfl,
    g_exchange := PySem.W.mg_of X G a_exchange,
    n_follow_label := fun_mk (st := s_follow_label) l_follow_label e_follow_label k_follow_label,
    b_follow_label := (fun_mk (st := s_follow_label) l_follow_label e_follow_label k_follow_label).binds (ps := ["section", "label", "to", "owner"]) fun _ _ _ _ _ _ us hl => match us, hl with | [_, _, _, _], _ => rfl,
    g_follow_label := PySem.W.mg_of X G a_follow_label,
    n_references_in := fun_mk (st := s_references_in) l_references_in e_references_in k_references_in,
    b_references_in := (fun_mk (st := s_references_in) l_references_in e_references_in k_references_in).binds (ps := ["text"]) fun _ _ _ _ _ _ us hl => match us, hl with | [_], _ => rfl,
    g_references_in := PySem.W.mg_of X G a_references_in,
    n_effect_of := fun_mk (st := s_effect_of) l_effect_of e_effect_of k_effect_of,
    b_effect_of := (fun_mk (st := s_effect_of) l_effect_of e_effect_of k_effect_of).binds (ps := ["command", "sections"]) fun _ _ _ _ _ _ us hl => match us, hl with | [_, _], _ => rfl,
    g_effect_of := PySem.W.mg_of X G a_effect_of,
    n_put_section := fun_mk (st := s_put_section) l_put_section e_put_section k_put_section,
    b_put_section := (fun_mk (st := s_put_section) l_put_section e_put_section k_put_section).binds (ps := ["command", "sections"]) fun _ _ _ _ _ _ us hl => match us, hl with | [_, _], _ => rfl,
    g_put_section := PySem.W.mg_of X G a_put_section,
    n_set_section := fun_mk (st := s_set_section) l_set_section e_set_section k_set_section,
    b_set_section := (fun_mk (st := s_set_section) l_set_section e_set_section k_set_section).binds (ps := ["sections", "place", "section"]) fun _ _ _ _ _ _ us hl => match us, hl with | [_, _, _], _ => rfl,
    g_set_section := PySem.W.mg_of X G a_set_section,
    n_change_word := fun_mk (st := s_change_word) l_change_word e_change_word k_change_word,
    b_change_word := (fun_mk (st := s_change_word) l_change_word e_change_word k_change_word).binds (ps := ["command", "sections", "place"]) fun _ _ _ _ _ _ us hl => match us, hl with | [_, _, _], _ => rfl,
    g_change_word := PySem.W.mg_of X G a_change_word,
    n_change_label := fun_mk (st := s_change_label) l_change_label e_change_label k_change_label,
    b_change_label := (fun_mk (st := s_change_label) l_change_label e_change_label k_change_label).binds (ps := ["command", "sections", "place"]) fun _ _ _ _ _ _ us hl => match us, hl with | [_, _, _], _ => rfl,
    g_change_label := PySem.W.mg_of X G a_change_label,
    n_is_short := fun_mk (st := s_is_short) l_is_short e_is_short k_is_short,
    b_is_short := (fun_mk (st := s_is_short) l_is_short e_is_short k_is_short).binds (ps := ["section"]) fun _ _ _ _ _ _ us hl => match us, hl with | [_], _ => rfl,
    g_is_short := PySem.W.mg_of X G a_is_short,
    n_Step_init := fun_mk (st := s_Step_init) l_Step_init e_Step_init k_Step_init,
    b_Step_init := (fun_mk (st := s_Step_init) l_Step_init e_Step_init k_Step_init).binds (ps := ["self", "number", "has_effect", "sections"]) fun _ _ _ _ _ _ us hl => match us, hl with | [_, _, _, _], _ => rfl,
    n_Course_init := fun_mk (st := s_Course_init) l_Course_init e_Course_init k_Course_init,
    b_Course_init := (fun_mk (st := s_Course_init) l_Course_init e_Course_init k_Course_init).binds (ps := ["self"]) fun _ _ _ _ _ _ us hl => match us, hl with | [_], _ => rfl,
    n_Course_take_all := fun_mk (st := s_Course_take_all) l_Course_take_all e_Course_take_all k_Course_take_all,
    b_Course_take_all := (fun_mk (st := s_Course_take_all) l_Course_take_all e_Course_take_all k_Course_take_all).binds (ps := ["self", "commands"]) fun _ _ _ _ _ _ us hl => match us, hl with | [_, _], _ => rfl,
    m_Course_take_all := ⟨a_Course_take_all, i_Course_take_all, k_Course_take_all⟩,
    n_Course_keep_same := fun_mk (st := s_Course_keep_same) l_Course_keep_same e_Course_keep_same k_Course_keep_same,
    b_Course_keep_same := (fun_mk (st := s_Course_keep_same) l_Course_keep_same e_Course_keep_same k_Course_keep_same).binds (ps := ["self", "commands"]) fun _ _ _ _ _ _ us hl => match us, hl with | [_, _], _ => rfl,
    m_Course_keep_same := ⟨a_Course_keep_same, i_Course_keep_same, k_Course_keep_same⟩,
    n_Course_take_one := fun_mk (st := s_Course_take_one) l_Course_take_one e_Course_take_one k_Course_take_one,
    b_Course_take_one := (fun_mk (st := s_Course_take_one) l_Course_take_one e_Course_take_one k_Course_take_one).binds (ps := ["self", "command"]) fun _ _ _ _ _ _ us hl => match us, hl with | [_, _], _ => rfl,
    m_Course_take_one := ⟨a_Course_take_one, i_Course_take_one, k_Course_take_one⟩,
    n_Course_sections_now := fun_mk (st := s_Course_sections_now) l_Course_sections_now e_Course_sections_now k_Course_sections_now,
    b_Course_sections_now := (fun_mk (st := s_Course_sections_now) l_Course_sections_now e_Course_sections_now k_Course_sections_now).binds (ps := ["self"]) fun _ _ _ _ _ _ us hl => match us, hl with | [_], _ => rfl,
    m_Course_sections_now := ⟨a_Course_sections_now, i_Course_sections_now, k_Course_sections_now⟩,
    n_Course_without_effect := fun_mk (st := s_Course_without_effect) l_Course_without_effect e_Course_without_effect k_Course_without_effect,
    b_Course_without_effect := (fun_mk (st := s_Course_without_effect) l_Course_without_effect e_Course_without_effect k_Course_without_effect).binds (ps := ["self"]) fun _ _ _ _ _ _ us hl => match us, hl with | [_], _ => rfl,
    m_Course_without_effect := ⟨a_Course_without_effect, i_Course_without_effect, k_Course_without_effect⟩,
    n_Record_init := fun_mk (st := s_Record_init) l_Record_init e_Record_init k_Record_init,
    b_Record_init := (fun_mk (st := s_Record_init) l_Record_init e_Record_init k_Record_init).binds (ps := ["self"]) fun _ _ _ _ _ _ us hl => match us, hl with | [_], _ => rfl,
    n_Record_add_act := fun_mk (st := s_Record_add_act) l_Record_add_act e_Record_add_act k_Record_add_act,
    b_Record_add_act := (fun_mk (st := s_Record_add_act) l_Record_add_act e_Record_add_act k_Record_add_act).binds (ps := ["self", "day"]) fun _ _ _ _ _ _ us hl => match us, hl with | [_, _], _ => rfl,
    m_Record_add_act := ⟨a_Record_add_act, i_Record_add_act, k_Record_add_act⟩,
    n_Record_add_command := fun_mk (st := s_Record_add_command) l_Record_add_command e_Record_add_command k_Record_add_command,
    b_Record_add_command := (fun_mk (st := s_Record_add_command) l_Record_add_command e_Record_add_command k_Record_add_command).binds (ps := ["self", "command"]) fun _ _ _ _ _ _ us hl => match us, hl with | [_, _], _ => rfl,
    m_Record_add_command := ⟨a_Record_add_command, i_Record_add_command, k_Record_add_command⟩,
    n_Record_add_void := fun_mk (st := s_Record_add_void) l_Record_add_void e_Record_add_void k_Record_add_void,
    b_Record_add_void := (fun_mk (st := s_Record_add_void) l_Record_add_void e_Record_add_void k_Record_add_void).binds (ps := ["self", "target"]) fun _ _ _ _ _ _ us hl => match us, hl with | [_, _], _ => rfl,
    m_Record_add_void := ⟨a_Record_add_void, i_Record_add_void, k_Record_add_void⟩,
    n_Record_keep := fun_mk (st := s_Record_keep) l_Record_keep e_Record_keep k_Record_keep,
    b_Record_keep := (fun_mk (st := s_Record_keep) l_Record_keep e_Record_keep k_Record_keep).binds (ps := ["self", "command"]) fun _ _ _ _ _ _ us hl => match us, hl with | [_, _], _ => rfl,
    m_Record_keep := ⟨a_Record_keep, i_Record_keep, k_Record_keep⟩,
    n_Record_last_act := fun_mk (st := s_Record_last_act) l_Record_last_act e_Record_last_act k_Record_last_act,
    b_Record_last_act := (fun_mk (st := s_Record_last_act) l_Record_last_act e_Record_last_act k_Record_last_act).binds (ps := ["self"]) fun _ _ _ _ _ _ us hl => match us, hl with | [_], _ => rfl,
    m_Record_last_act := ⟨a_Record_last_act, i_Record_last_act, k_Record_last_act⟩,
    n_Record_is_before_last_act := fun_mk (st := s_Record_is_before_last_act) l_Record_is_before_last_act e_Record_is_before_last_act k_Record_is_before_last_act,
    b_Record_is_before_last_act := (fun_mk (st := s_Record_is_before_last_act) l_Record_is_before_last_act e_Record_is_before_last_act k_Record_is_before_last_act).binds (ps := ["self", "day"]) fun _ _ _ _ _ _ us hl => match us, hl with | [_, _], _ => rfl,
    m_Record_is_before_last_act := ⟨a_Record_is_before_last_act, i_Record_is_before_last_act, k_Record_is_before_last_act⟩,
    n_Record_known_on := fun_mk (st := s_Record_known_on) l_Record_known_on e_Record_known_on k_Record_known_on,
    b_Record_known_on := (fun_mk (st := s_Record_known_on) l_Record_known_on e_Record_known_on k_Record_known_on).binds (ps := ["self", "day"]) fun _ _ _ _ _ _ us hl => match us, hl with | [_, _], _ => rfl,
    m_Record_known_on := ⟨a_Record_known_on, i_Record_known_on, k_Record_known_on⟩,
    n_Record_valid_on := fun_mk (st := s_Record_valid_on) l_Record_valid_on e_Record_valid_on k_Record_valid_on,
    b_Record_valid_on := (fun_mk (st := s_Record_valid_on) l_Record_valid_on e_Record_valid_on k_Record_valid_on).binds (ps := ["self", "day"]) fun _ _ _ _ _ _ us hl => match us, hl with | [_, _], _ => rfl,
    m_Record_valid_on := ⟨a_Record_valid_on, i_Record_valid_on, k_Record_valid_on⟩,
    n_Laws_init := fun_mk (st := s_Laws_init) l_Laws_init e_Laws_init k_Laws_init,
    b_Laws_init := (fun_mk (st := s_Laws_init) l_Laws_init e_Laws_init k_Laws_init).binds (ps := ["self"]) fun _ _ _ _ _ _ us hl => match us, hl with | [_], _ => rfl,
    n_Laws_begin := fun_mk (st := s_Laws_begin) l_Laws_begin e_Laws_begin k_Laws_begin,
    b_Laws_begin := (fun_mk (st := s_Laws_begin) l_Laws_begin e_Laws_begin k_Laws_begin).binds (ps := ["self"]) fun _ _ _ _ _ _ us hl => match us, hl with | [_], _ => rfl,
    m_Laws_begin := ⟨a_Laws_begin, i_Laws_begin, k_Laws_begin⟩,
    n_Laws_course_of := fun_mk (st := s_Laws_course_of) l_Laws_course_of e_Laws_course_of k_Laws_course_of,
    b_Laws_course_of := (fun_mk (st := s_Laws_course_of) l_Laws_course_of e_Laws_course_of k_Laws_course_of).binds (ps := ["self", "law"]) fun _ _ _ _ _ _ us hl => match us, hl with | [_, _], _ => rfl,
    m_Laws_course_of := ⟨a_Laws_course_of, i_Laws_course_of, k_Laws_course_of⟩,
    n_Laws_commands_of := fun_mk (st := s_Laws_commands_of) l_Laws_commands_of e_Laws_commands_of k_Laws_commands_of,
    b_Laws_commands_of := (fun_mk (st := s_Laws_commands_of) l_Laws_commands_of e_Laws_commands_of k_Laws_commands_of).binds (ps := ["self", "law", "known"]) fun _ _ _ _ _ _ us hl => match us, hl with | [_, _, _], _ => rfl,
    m_Laws_commands_of := ⟨a_Laws_commands_of, i_Laws_commands_of, k_Laws_commands_of⟩,
    n_Laws_sections_by := fun_mk (st := s_Laws_sections_by) l_Laws_sections_by e_Laws_sections_by k_Laws_sections_by,
    b_Laws_sections_by := (fun_mk (st := s_Laws_sections_by) l_Laws_sections_by e_Laws_sections_by k_Laws_sections_by).binds (ps := ["self", "law", "commands", "on"]) fun _ _ _ _ _ _ us hl => match us, hl with | [_, _, _, _], _ => rfl,
    m_Laws_sections_by := ⟨a_Laws_sections_by, i_Laws_sections_by, k_Laws_sections_by⟩,
    n_Laws_sections_of := fun_mk (st := s_Laws_sections_of) l_Laws_sections_of e_Laws_sections_of k_Laws_sections_of,
    b_Laws_sections_of := (fun_mk (st := s_Laws_sections_of) l_Laws_sections_of e_Laws_sections_of k_Laws_sections_of).binds (ps := ["self", "law", "on", "known"]) fun _ _ _ _ _ _ us hl => match us, hl with | [_, _, _, _], _ => rfl,
    m_Laws_sections_of := ⟨a_Laws_sections_of, i_Laws_sections_of, k_Laws_sections_of⟩,
    n_Laws_without_effect := fun_mk (st := s_Laws_without_effect) l_Laws_without_effect e_Laws_without_effect k_Laws_without_effect,
    b_Laws_without_effect := (fun_mk (st := s_Laws_without_effect) l_Laws_without_effect e_Laws_without_effect k_Laws_without_effect).binds (ps := ["self", "on", "known"]) fun _ _ _ _ _ _ us hl => match us, hl with | [_, _, _], _ => rfl,
    m_Laws_without_effect := ⟨a_Laws_without_effect, i_Laws_without_effect, k_Laws_without_effect⟩,
    n_in_order := fun_mk (st := s_in_order) l_in_order e_in_order k_in_order,
    b_in_order := (fun_mk (st := s_in_order) l_in_order e_in_order k_in_order).binds (ps := ["commands"]) fun _ _ _ _ _ _ us hl => match us, hl with | [_], _ => rfl,
    lam_in_order := ⟨_, _, _, _, _, _, _, _, rfl, l_in_order, e_in_order⟩,
    g_in_order := PySem.W.mg_of X G a_in_order,
    n_counting_on := fun_mk (st := s_counting_on) l_counting_on e_counting_on k_counting_on,
    b_counting_on := (fun_mk (st := s_counting_on) l_counting_on e_counting_on k_counting_on).binds (ps := ["commands", "day"]) fun _ _ _ _ _ _ us hl => match us, hl with | [_, _], _ => rfl,
    g_counting_on := PySem.W.mg_of X G a_counting_on,
    n_days_above := fun_mk (st := s_days_above) l_days_above e_days_above k_days_above,
    b_days_above := (fun_mk (st := s_days_above) l_days_above e_days_above k_days_above).binds (ps := ["commands", "on"]) fun _ _ _ _ _ _ us hl => match us, hl with | [_, _], _ => rfl,
    g_days_above := PySem.W.mg_of X G a_days_above,
    n_is_askable := fun_mk (st := s_is_askable) l_is_askable e_is_askable k_is_askable,
    b_is_askable := (fun_mk (st := s_is_askable) l_is_askable e_is_askable k_is_askable).binds (ps := ["law", "on", "known"]) fun _ _ _ _ _ _ us hl => match us, hl with | [_, _, _], _ => rfl,
    g_is_askable := PySem.W.mg_of X G a_is_askable,
    n_tell_read := fun_mk (st := s_tell_read) l_tell_read e_tell_read k_tell_read,
    b_tell_read := (fun_mk (st := s_tell_read) l_tell_read e_tell_read k_tell_read).binds (ps := ["laws", "law", "label", "on", "known"]) fun _ _ _ _ _ _ us hl => match us, hl with | [_, _, _, _, _], _ => rfl,
    g_tell_read := PySem.W.mg_of X G a_tell_read,
    n_tell_labels := fun_mk (st := s_tell_labels) l_tell_labels e_tell_labels k_tell_labels,
    b_tell_labels := (fun_mk (st := s_tell_labels) l_tell_labels e_tell_labels k_tell_labels).binds (ps := ["laws", "law", "on", "known"]) fun _ _ _ _ _ _ us hl => match us, hl with | [_, _, _, _], _ => rfl,
    g_tell_labels := PySem.W.mg_of X G a_tell_labels,
    n_tell_origin := fun_mk (st := s_tell_origin) l_tell_origin e_tell_origin k_tell_origin,
    b_tell_origin := (fun_mk (st := s_tell_origin) l_tell_origin e_tell_origin k_tell_origin).binds (ps := ["laws", "law", "label", "on", "known"]) fun _ _ _ _ _ _ us hl => match us, hl with | [_, _, _, _, _], _ => rfl,
    g_tell_origin := PySem.W.mg_of X G a_tell_origin,
    n_tell_idle := fun_mk (st := s_tell_idle) l_tell_idle e_tell_idle k_tell_idle,
    b_tell_idle := (fun_mk (st := s_tell_idle) l_tell_idle e_tell_idle k_tell_idle).binds (ps := ["laws", "on", "known"]) fun _ _ _ _ _ _ us hl => match us, hl with | [_, _, _], _ => rfl,
    g_tell_idle := PySem.W.mg_of X G a_tell_idle,
    n_tell_broken := fun_mk (st := s_tell_broken) l_tell_broken e_tell_broken k_tell_broken,
    b_tell_broken := (fun_mk (st := s_tell_broken) l_tell_broken e_tell_broken k_tell_broken).binds (ps := ["laws", "law", "on", "known", "k"]) fun _ _ _ _ _ _ us hl => match us, hl with | [_, _, _, _, _], _ => rfl,
    g_tell_broken := PySem.W.mg_of X G a_tell_broken,
    n_tell_next := fun_mk (st := s_tell_next) l_tell_next e_tell_next k_tell_next,
    b_tell_next := (fun_mk (st := s_tell_next) l_tell_next e_tell_next k_tell_next).binds (ps := ["laws", "law", "label", "on", "known"]) fun _ _ _ _ _ _ us hl => match us, hl with | [_, _, _, _, _], _ => rfl,
    g_tell_next := PySem.W.mg_of X G a_tell_next,
    n_find_section := fun_mk (st := s_find_section) l_find_section e_find_section k_find_section,
    b_find_section := (fun_mk (st := s_find_section) l_find_section e_find_section k_find_section).binds (ps := ["sections", "label"]) fun _ _ _ _ _ _ us hl => match us, hl with | [_, _], _ => rfl,
    g_find_section := PySem.W.mg_of X G a_find_section,
    n_find_text := fun_mk (st := s_find_text) l_find_text e_find_text k_find_text,
    b_find_text := (fun_mk (st := s_find_text) l_find_text e_find_text k_find_text).binds (ps := ["sections", "label"]) fun _ _ _ _ _ _ us hl => match us, hl with | [_, _], _ => rfl,
    g_find_text := PySem.W.mg_of X G a_find_text,
    n_with_size := fun_mk (st := s_with_size) l_with_size e_with_size k_with_size,
    b_with_size := (fun_mk (st := s_with_size) l_with_size e_with_size k_with_size).binds (ps := ["row"]) fun _ _ _ _ _ _ us hl => match us, hl with | [_], _ => rfl,
    g_with_size := PySem.W.mg_of X G a_with_size,
    n_rows_of := fun_mk (st := s_rows_of) l_rows_of e_rows_of k_rows_of,
    b_rows_of := (fun_mk (st := s_rows_of) l_rows_of e_rows_of k_rows_of).binds (ps := ["owners"]) fun _ _ _ _ _ _ us hl => match us, hl with | [_], _ => rfl,
    g_rows_of := PySem.W.mg_of X G a_rows_of,
    n_Reader_init := fun_mk (st := s_Reader_init) l_Reader_init e_Reader_init k_Reader_init,
    b_Reader_init := (fun_mk (st := s_Reader_init) l_Reader_init e_Reader_init k_Reader_init).binds (ps := ["self", "numbers"]) fun _ _ _ _ _ _ us hl => match us, hl with | [_, _], _ => rfl,
    n_Reader_has_more := fun_mk (st := s_Reader_has_more) l_Reader_has_more e_Reader_has_more k_Reader_has_more,
    b_Reader_has_more := (fun_mk (st := s_Reader_has_more) l_Reader_has_more e_Reader_has_more k_Reader_has_more).binds (ps := ["self"]) fun _ _ _ _ _ _ us hl => match us, hl with | [_], _ => rfl,
    m_Reader_has_more := ⟨a_Reader_has_more, i_Reader_has_more, k_Reader_has_more⟩,
    n_Reader_next_number := fun_mk (st := s_Reader_next_number) l_Reader_next_number e_Reader_next_number k_Reader_next_number,
    b_Reader_next_number := (fun_mk (st := s_Reader_next_number) l_Reader_next_number e_Reader_next_number k_Reader_next_number).binds (ps := ["self"]) fun _ _ _ _ _ _ us hl => match us, hl with | [_], _ => rfl,
    m_Reader_next_number := ⟨a_Reader_next_number, i_Reader_next_number, k_Reader_next_number⟩,
    n_Reader_next_row := fun_mk (st := s_Reader_next_row) l_Reader_next_row e_Reader_next_row k_Reader_next_row,
    b_Reader_next_row := (fun_mk (st := s_Reader_next_row) l_Reader_next_row e_Reader_next_row k_Reader_next_row).binds (ps := ["self"]) fun _ _ _ _ _ _ us hl => match us, hl with | [_], _ => rfl,
    m_Reader_next_row := ⟨a_Reader_next_row, i_Reader_next_row, k_Reader_next_row⟩,
    n_answers := fun_mk (st := s_answers) l_answers e_answers k_answers,
    b_answers := (fun_mk (st := s_answers) l_answers e_answers k_answers).binds (ps := ["calls"]) fun _ _ _ _ _ _ us hl => match us, hl with | [_], _ => rfl,
    g_answers := PySem.W.mg_of X G a_answers,
    n_answer_call := fun_mk (st := s_answer_call) l_answer_call e_answer_call k_answer_call,
    b_answer_call := (fun_mk (st := s_answer_call) l_answer_call e_answer_call k_answer_call).binds (ps := ["laws", "reader"]) fun _ _ _ _ _ _ us hl => match us, hl with | [_, _], _ => rfl,
    g_answer_call := PySem.W.mg_of X G a_answer_call,
    n_answer_of_law := fun_mk (st := s_answer_of_law) l_answer_of_law e_answer_of_law k_answer_of_law,
    b_answer_of_law := (fun_mk (st := s_answer_of_law) l_answer_of_law e_answer_of_law k_answer_of_law).binds (ps := ["laws", "call", "reader"]) fun _ _ _ _ _ _ us hl => match us, hl with | [_, _, _], _ => rfl,
    g_answer_of_law := PySem.W.mg_of X G a_answer_of_law,
    n_read_command := fun_mk (st := s_read_command) l_read_command e_read_command k_read_command,
    b_read_command := (fun_mk (st := s_read_command) l_read_command e_read_command k_read_command).binds (ps := ["kind", "reader"]) fun _ _ _ _ _ _ us hl => match us, hl with | [_, _], _ => rfl,
    g_read_command := PySem.W.mg_of X G a_read_command,
    g_ACT := ⟨_, PySem.W.mg_of X G v_ACT⟩,
    g_BEGIN := ⟨_, PySem.W.mg_of X G v_BEGIN⟩,
    g_BLANK := ⟨_, PySem.W.mg_of X G v_BLANK⟩,
    g_BROKEN := ⟨_, PySem.W.mg_of X G v_BROKEN⟩,
    g_DONE := ⟨_, PySem.W.mg_of X G v_DONE⟩,
    g_FOUND := ⟨_, PySem.W.mg_of X G v_FOUND⟩,
    g_FULL := ⟨_, PySem.W.mg_of X G v_FULL⟩,
    g_IDLE := ⟨_, PySem.W.mg_of X G v_IDLE⟩,
    g_LABELS := ⟨_, PySem.W.mg_of X G v_LABELS⟩,
    g_LAST_DAY := ⟨_, PySem.W.mg_of X G v_LAST_DAY⟩,
    g_LAST_FOLLOW := ⟨_, PySem.W.mg_of X G v_LAST_FOLLOW⟩,
    g_LAST_LAW := ⟨_, PySem.W.mg_of X G v_LAST_LAW⟩,
    g_LAST_SIGN := ⟨_, PySem.W.mg_of X G v_LAST_SIGN⟩,
    g_LEFT_BRACKET := ⟨_, PySem.W.mg_of X G v_LEFT_BRACKET⟩,
    g_MOST_ACTS := ⟨_, PySem.W.mg_of X G v_MOST_ACTS⟩,
    g_MOST_COMMANDS := ⟨_, PySem.W.mg_of X G v_MOST_COMMANDS⟩,
    g_MOST_LABEL_BYTES := ⟨_, PySem.W.mg_of X G v_MOST_LABEL_BYTES⟩,
    g_MOST_SECTIONS := ⟨_, PySem.W.mg_of X G v_MOST_SECTIONS⟩,
    g_MOST_SECTION_BYTES := ⟨_, PySem.W.mg_of X G v_MOST_SECTION_BYTES⟩,
    g_MOST_TEXT_BYTES := ⟨_, PySem.W.mg_of X G v_MOST_TEXT_BYTES⟩,
    g_NAME := ⟨_, PySem.W.mg_of X G v_NAME⟩,
    g_NONE_LEFT := ⟨_, PySem.W.mg_of X G v_NONE_LEFT⟩,
    g_NO_ACT := ⟨_, PySem.W.mg_of X G v_NO_ACT⟩,
    g_NO_SECTION := ⟨_, PySem.W.mg_of X G v_NO_SECTION⟩,
    g_ORIGIN := ⟨_, PySem.W.mg_of X G v_ORIGIN⟩,
    g_PUT := ⟨_, PySem.W.mg_of X G v_PUT⟩,
    g_READ := ⟨_, PySem.W.mg_of X G v_READ⟩,
    g_RIGHT_BRACKET := ⟨_, PySem.W.mg_of X G v_RIGHT_BRACKET⟩,
    g_TAKE := ⟨_, PySem.W.mg_of X G v_TAKE⟩,
    g_TEXT := ⟨_, PySem.W.mg_of X G v_TEXT⟩,
    g_TOLD := ⟨_, PySem.W.mg_of X G v_TOLD⟩,
    g_VOID := ⟨_, PySem.W.mg_of X G v_VOID⟩,
    g_WORD := ⟨_, PySem.W.mg_of X G v_WORD⟩,
    g_WRONG := ⟨_, PySem.W.mg_of X G v_WRONG⟩,
    z_all := PySem.W.mg_none_of X G z_all,
    z_enumerate := PySem.W.mg_none_of X G z_enumerate,
    z_len := PySem.W.mg_none_of X G z_len,
    z_range := PySem.W.mg_none_of X G z_range,
    z_reversed := PySem.W.mg_none_of X G z_reversed,
    z_sorted := PySem.W.mg_none_of X G z_sorted
  }, (Value.ref.inj (Option.some.inj e)).symm, fun s us hu => match us, hu with | [_], _ => .of_eq rfl, by unfold PySem.W.tabIn; simp only [a_in_order, l_in_order, c_in_order, p_in_order, PySem.W.fnOf], o_in_order⟩
theorem fin {P : Program} {w : World} {K : PySem.W.Frag} {h : Heap} {mg mb : Str → Option Value} {fa : Addr} {p : Program} {loose : List Str} {mean : ExcName → Option Value} {d : DefRec} (X : K.In h) (T : PyProof.Rows.Top p loose mean mg mb h)
    (hd : (PyProof.Rows.recsOf p).find? (fun e : DefRec => e.name == ("in_order" : Str)) = some d)
    (big : ∃ A : Ad, Txt K mg A ∧ A.f_answers = fa ∧ (∀ (s : Shared) (us : List Value), us.length = (["calls"] : List Str).length → BindsTo s A.d_answers ⟨us, []⟩ ((["calls"] : List Str).zip us)) ∧ PySem.W.tabIn K "in_order" = some (A.k_in_order, A.P_in_order) ∧ K.lookup A.P_in_order = none) :
    ∃ (A : Ad) (c : Addr) (fd : FuncData), OneTab K mg h c A.P_in_order ∧ (∀ (s : Shared) (us : List Value), us.length = (["calls"] : List Str).length → BindsTo s fd ⟨us, []⟩ ((["calls"] : List Str).zip us)) ∧
      ∀ base : Heap, LamX.TabB base mg c A.P_in_order → FnOk P w K mg base CX0 14 fa fd ["calls"] (spAns A K) := by
  obtain ⟨A, t, rfl, bd, e1, e2⟩ := big
  obtain ⟨c1, c2⟩ := PySem.W.tab_of T X hd e1
  exact ⟨A, A.k_in_order, A.d_answers, ⟨c2, e2, c1, T.bmain⟩, bd, fun base tb => ok_all t tb⟩
end LD

open PySem PySem.W PyProof.Rows
theorem PySem.Challenge.cw_lawdays_s01_answers_holds : PySem.Challenge.rw_lawdays_s01_answers.Holds := by
  w_on; k_headS; (case hw => exact ⟨[.list [.int 0]], by decide +kernel, by decide +kernel⟩)
  k_fillS
  refine LD.walked (r := PySem.Challenge.rw_lawdays_s01_answers) (k := 14) (CX := L2.CX0) (ps := ["calls"]) (α := LD.Ad) (sp := LD.spAns) (tb := fun A => A.P_in_order) (by decide +kernel) rfl ⟨rfl, by decide, by decide⟩ (fun w h Y => PySem.W.kIn_of Y) ?F ?S (fun _ _ _ _ z => z)
  case F =>
    intro w s0 mg mb fa h G Y KX hmg
    refine LD.fin KX G.T rfl ?_
    refine' LD.txt_all KX G.T.g hmg ?a_Command ?a_Section ?a_Step ?a_Course ?a_Record ?a_Laws ?a_Reader ?a_is_day ?l_is_day ?e_is_day ?k_is_day ?a_is_law ?l_is_law ?e_is_law ?k_is_law ?a_is_span ?l_is_span ?e_is_span ?k_is_span ?a_is_text_byte ?l_is_text_byte ?e_is_text_byte ?k_is_text_byte ?a_is_label_byte ?l_is_label_byte ?e_is_label_byte ?k_is_label_byte ?a_is_label ?l_is_label ?e_is_label ?k_is_label ?a_is_text ?l_is_text ?e_is_text ?k_is_text ?a_Command_init ?i_Command_init ?l_Command_init ?e_Command_init ?k_Command_init ?a_is_sound ?l_is_sound ?e_is_sound ?k_is_sound ?a_is_place ?l_is_place ?e_is_place ?k_is_place ?a_is_old ?l_is_old ?e_is_old ?k_is_old ?a_Section_init ?i_Section_init ?l_Section_init ?e_Section_init ?k_Section_init ?a_new_section ?l_new_section ?e_new_section ?k_new_section ?a_place_of ?l_place_of ?e_place_of ?k_place_of ?a_places_in ?l_places_in ?e_places_in ?k_places_in ?a_exchange ?l_exchange ?e_exchange ?k_exchange ?a_follow_label ?l_follow_label ?e_follow_label ?k_follow_label ?a_references_in ?l_references_in ?e_references_in ?k_references_in ?a_effect_of ?l_effect_of ?e_effect_of ?k_effect_of ?a_put_section ?l_put_section ?e_put_section ?k_put_section ?a_set_section ?l_set_section ?e_set_section ?k_set_section ?a_change_word ?l_change_word ?e_change_word ?k_change_word ?a_change_label ?l_change_label ?e_change_label ?k_change_label ?a_is_short ?l_is_short ?e_is_short ?k_is_short ?a_Step_init ?i_Step_init ?l_Step_init ?e_Step_init ?k_Step_init ?a_Course_init ?i_Course_init ?l_Course_init ?e_Course_init ?k_Course_init ?a_Course_take_all ?i_Course_take_all ?l_Course_take_all ?e_Course_take_all ?k_Course_take_all ?a_Course_keep_same ?i_Course_keep_same ?l_Course_keep_same ?e_Course_keep_same ?k_Course_keep_same ?a_Course_take_one ?i_Course_take_one ?l_Course_take_one ?e_Course_take_one ?k_Course_take_one ?a_Course_sections_now ?i_Course_sections_now ?l_Course_sections_now ?e_Course_sections_now ?k_Course_sections_now ?a_Course_without_effect ?i_Course_without_effect ?l_Course_without_effect ?e_Course_without_effect ?k_Course_without_effect ?a_Record_init ?i_Record_init ?l_Record_init ?e_Record_init ?k_Record_init ?a_Record_add_act ?i_Record_add_act ?l_Record_add_act ?e_Record_add_act ?k_Record_add_act ?a_Record_add_command ?i_Record_add_command ?l_Record_add_command ?e_Record_add_command ?k_Record_add_command ?a_Record_add_void ?i_Record_add_void ?l_Record_add_void ?e_Record_add_void ?k_Record_add_void ?a_Record_keep ?i_Record_keep ?l_Record_keep ?e_Record_keep ?k_Record_keep ?a_Record_last_act ?i_Record_last_act ?l_Record_last_act ?e_Record_last_act ?k_Record_last_act ?a_Record_is_before_last_act ?i_Record_is_before_last_act ?l_Record_is_before_last_act ?e_Record_is_before_last_act ?k_Record_is_before_last_act ?a_Record_known_on ?i_Record_known_on ?l_Record_known_on ?e_Record_known_on ?k_Record_known_on ?a_Record_valid_on ?i_Record_valid_on ?l_Record_valid_on ?e_Record_valid_on ?k_Record_valid_on ?a_Laws_init ?i_Laws_init ?l_Laws_init ?e_Laws_init ?k_Laws_init ?a_Laws_begin ?i_Laws_begin ?l_Laws_begin ?e_Laws_begin ?k_Laws_begin ?a_Laws_course_of ?i_Laws_course_of ?l_Laws_course_of ?e_Laws_course_of ?k_Laws_course_of ?a_Laws_commands_of ?i_Laws_commands_of ?l_Laws_commands_of ?e_Laws_commands_of ?k_Laws_commands_of ?a_Laws_sections_by ?i_Laws_sections_by ?l_Laws_sections_by ?e_Laws_sections_by ?k_Laws_sections_by ?a_Laws_sections_of ?i_Laws_sections_of ?l_Laws_sections_of ?e_Laws_sections_of ?k_Laws_sections_of ?a_Laws_without_effect ?i_Laws_without_effect ?l_Laws_without_effect ?e_Laws_without_effect ?k_Laws_without_effect ?a_in_order ?l_in_order ?e_in_order ?k_in_order ?c_in_order ?p_in_order ?o_in_order ?a_counting_on ?l_counting_on ?e_counting_on ?k_counting_on ?a_days_above ?l_days_above ?e_days_above ?k_days_above ?a_is_askable ?l_is_askable ?e_is_askable ?k_is_askable ?a_tell_read ?l_tell_read ?e_tell_read ?k_tell_read ?a_tell_labels ?l_tell_labels ?e_tell_labels ?k_tell_labels ?a_tell_origin ?l_tell_origin ?e_tell_origin ?k_tell_origin ?a_tell_idle ?l_tell_idle ?e_tell_idle ?k_tell_idle ?a_tell_broken ?l_tell_broken ?e_tell_broken ?k_tell_broken ?a_tell_next ?l_tell_next ?e_tell_next ?k_tell_next ?a_find_section ?l_find_section ?e_find_section ?k_find_section ?a_find_text ?l_find_text ?e_find_text ?k_find_text ?a_with_size ?l_with_size ?e_with_size ?k_with_size ?a_rows_of ?l_rows_of ?e_rows_of ?k_rows_of ?a_Reader_init ?i_Reader_init ?l_Reader_init ?e_Reader_init ?k_Reader_init ?a_Reader_has_more ?i_Reader_has_more ?l_Reader_has_more ?e_Reader_has_more ?k_Reader_has_more ?a_Reader_next_number ?i_Reader_next_number ?l_Reader_next_number ?e_Reader_next_number ?k_Reader_next_number ?a_Reader_next_row ?i_Reader_next_row ?l_Reader_next_row ?e_Reader_next_row ?k_Reader_next_row ?a_answers ?l_answers ?e_answers ?k_answers ?a_answer_call ?l_answer_call ?e_answer_call ?k_answer_call ?a_answer_of_law ?l_answer_of_law ?e_answer_of_law ?k_answer_of_law ?a_read_command ?l_read_command ?e_read_command ?k_read_command ?pg_Command ?hd_Command ?po_Command ?sa_Command ?mk_Command ?kc_Command ?no_Command_kind ?no_Command_number ?no_Command_act ?no_Command_law ?no_Command_begins ?no_Command_till ?no_Command_follow ?no_Command_target ?no_Command_after ?no_Command_label ?no_Command_old ?no_Command_to ?no_Command_text ?pg_Section ?hd_Section ?po_Section ?sa_Section ?mk_Section ?kc_Section ?no_Section_label ?no_Section_text ?no_Section_owners ?pg_Step ?hd_Step ?po_Step ?sa_Step ?mk_Step ?kc_Step ?no_Step_number ?no_Step_has_effect ?no_Step_sections ?pg_Course ?hd_Course ?po_Course ?sa_Course ?mk_Course ?kc_Course ?no_Course_steps ?pg_Record ?hd_Record ?po_Record ?sa_Record ?mk_Record ?kc_Record ?no_Record_days ?no_Record_commands ?pg_Laws ?hd_Laws ?po_Laws ?sa_Laws ?mk_Laws ?kc_Laws ?no_Laws_record ?no_Laws_courses ?pg_Reader ?hd_Reader ?po_Reader ?sa_Reader ?mk_Reader ?kc_Reader ?no_Reader_numbers ?no_Reader_place ?v_ACT ?v_BEGIN ?v_BLANK ?v_BROKEN ?v_DONE ?v_FOUND ?v_FULL ?v_IDLE ?v_LABELS ?v_LAST_DAY ?v_LAST_FOLLOW ?v_LAST_LAW ?v_LAST_SIGN ?v_LEFT_BRACKET ?v_MOST_ACTS ?v_MOST_COMMANDS ?v_MOST_LABEL_BYTES ?v_MOST_SECTIONS ?v_MOST_SECTION_BYTES ?v_MOST_TEXT_BYTES ?v_NAME ?v_NONE_LEFT ?v_NO_ACT ?v_NO_SECTION ?v_ORIGIN ?v_PUT ?v_READ ?v_RIGHT_BRACKET ?v_TAKE ?v_TEXT ?v_TOLD ?v_VOID ?v_WORD ?v_WRONG ?z_all ?z_enumerate ?z_len ?z_range ?z_reversed ?z_sorted
    (case a_Command => k_is)
    (case a_Section => k_is)
    (case a_Step => k_is)
    (case a_Course => k_is)
    (case a_Record => k_is)
    (case a_Laws => k_is)
    (case a_Reader => k_is)
    (case a_is_day => k_is)
    (case l_is_day => k_is)
    (case e_is_day => k_is)
    (case k_is_day => k_is)
    (case a_is_law => k_is)
    (case l_is_law => k_is)
    (case e_is_law => k_is)
    (case k_is_law => k_is)
    (case a_is_span => k_is)
    (case l_is_span => k_is)
    (case e_is_span => k_is)
    (case k_is_span => k_is)
    (case a_is_text_byte => k_is)
    (case l_is_text_byte => k_is)
    (case e_is_text_byte => k_is)
    (case k_is_text_byte => k_is)
    (case a_is_label_byte => k_is)
    (case l_is_label_byte => k_is)
    (case e_is_label_byte => k_is)
    (case k_is_label_byte => k_is)
    (case a_is_label => k_is)
    (case l_is_label => k_is)
    (case e_is_label => k_is)
    (case k_is_label => k_is)
    (case a_is_text => k_is)
    (case l_is_text => k_is)
    (case e_is_text => k_is)
    (case k_is_text => k_is)
    (case a_Command_init => k_is)
    (case i_Command_init => k_is)
    (case l_Command_init => k_is)
    (case e_Command_init => k_is)
    (case k_Command_init => k_is)
    (case a_is_sound => k_is)
    (case l_is_sound => k_is)
    (case e_is_sound => k_is)
    (case k_is_sound => k_is)
    (case a_is_place => k_is)
    (case l_is_place => k_is)
    (case e_is_place => k_is)
    (case k_is_place => k_is)
    (case a_is_old => k_is)
    (case l_is_old => k_is)
    (case e_is_old => k_is)
    (case k_is_old => k_is)
    (case a_Section_init => k_is)
    (case i_Section_init => k_is)
    (case l_Section_init => k_is)
    (case e_Section_init => k_is)
    (case k_Section_init => k_is)
    (case a_new_section => k_is)
    (case l_new_section => k_is)
    (case e_new_section => k_is)
    (case k_new_section => k_is)
    (case a_place_of => k_is)
    (case l_place_of => k_is)
    (case e_place_of => k_is)
    (case k_place_of => k_is)
    (case a_places_in => k_is)
    (case l_places_in => k_is)
    (case e_places_in => k_is)
    (case k_places_in => k_is)
    (case a_exchange => k_is)
    (case l_exchange => k_is)
    (case e_exchange => k_is)
    (case k_exchange => k_is)
    (case a_follow_label => k_is)
    (case l_follow_label => k_is)
    (case e_follow_label => k_is)
    (case k_follow_label => k_is)
    (case a_references_in => k_is)
    (case l_references_in => k_is)
    (case e_references_in => k_is)
    (case k_references_in => k_is)
    (case a_effect_of => k_is)
    (case l_effect_of => k_is)
    (case e_effect_of => k_is)
    (case k_effect_of => k_is)
    (case a_put_section => k_is)
    (case l_put_section => k_is)
    (case e_put_section => k_is)
    (case k_put_section => k_is)
    (case a_set_section => k_is)
    (case l_set_section => k_is)
    (case e_set_section => k_is)
    (case k_set_section => k_is)
    (case a_change_word => k_is)
    (case l_change_word => k_is)
    (case e_change_word => k_is)
    (case k_change_word => k_is)
    (case a_change_label => k_is)
    (case l_change_label => k_is)
    (case e_change_label => k_is)
    (case k_change_label => k_is)
    (case a_is_short => k_is)
    (case l_is_short => k_is)
    (case e_is_short => k_is)
    (case k_is_short => k_is)
    (case a_Step_init => k_is)
    (case i_Step_init => k_is)
    (case l_Step_init => k_is)
    (case e_Step_init => k_is)
    (case k_Step_init => k_is)
    (case a_Course_init => k_is)
    (case i_Course_init => k_is)
    (case l_Course_init => k_is)
    (case e_Course_init => k_is)
    (case k_Course_init => k_is)
    (case a_Course_take_all => k_is)
    (case i_Course_take_all => k_is)
    (case l_Course_take_all => k_is)
    (case e_Course_take_all => k_is)
    (case k_Course_take_all => k_is)
    (case a_Course_keep_same => k_is)
    (case i_Course_keep_same => k_is)
    (case l_Course_keep_same => k_is)
    (case e_Course_keep_same => k_is)
    (case k_Course_keep_same => k_is)
    (case a_Course_take_one => k_is)
    (case i_Course_take_one => k_is)
    (case l_Course_take_one => k_is)
    (case e_Course_take_one => k_is)
    (case k_Course_take_one => k_is)
    (case a_Course_sections_now => k_is)
    (case i_Course_sections_now => k_is)
    (case l_Course_sections_now => k_is)
    (case e_Course_sections_now => k_is)
    (case k_Course_sections_now => k_is)
    (case a_Course_without_effect => k_is)
    (case i_Course_without_effect => k_is)
    (case l_Course_without_effect => k_is)
    (case e_Course_without_effect => k_is)
    (case k_Course_without_effect => k_is)
    (case a_Record_init => k_is)
    (case i_Record_init => k_is)
    (case l_Record_init => k_is)
    (case e_Record_init => k_is)
    (case k_Record_init => k_is)
    (case a_Record_add_act => k_is)
    (case i_Record_add_act => k_is)
    (case l_Record_add_act => k_is)
    (case e_Record_add_act => k_is)
    (case k_Record_add_act => k_is)
    (case a_Record_add_command => k_is)
    (case i_Record_add_command => k_is)
    (case l_Record_add_command => k_is)
    (case e_Record_add_command => k_is)
    (case k_Record_add_command => k_is)
    (case a_Record_add_void => k_is)
    (case i_Record_add_void => k_is)
    (case l_Record_add_void => k_is)
    (case e_Record_add_void => k_is)
    (case k_Record_add_void => k_is)
    (case a_Record_keep => k_is)
    (case i_Record_keep => k_is)
    (case l_Record_keep => k_is)
    (case e_Record_keep => k_is)
    (case k_Record_keep => k_is)
    (case a_Record_last_act => k_is)
    (case i_Record_last_act => k_is)
    (case l_Record_last_act => k_is)
    (case e_Record_last_act => k_is)
    (case k_Record_last_act => k_is)
    (case a_Record_is_before_last_act => k_is)
    (case i_Record_is_before_last_act => k_is)
    (case l_Record_is_before_last_act => k_is)
    (case e_Record_is_before_last_act => k_is)
    (case k_Record_is_before_last_act => k_is)
    (case a_Record_known_on => k_is)
    (case i_Record_known_on => k_is)
    (case l_Record_known_on => k_is)
    (case e_Record_known_on => k_is)
    (case k_Record_known_on => k_is)
    (case a_Record_valid_on => k_is)
    (case i_Record_valid_on => k_is)
    (case l_Record_valid_on => k_is)
    (case e_Record_valid_on => k_is)
    (case k_Record_valid_on => k_is)
    (case a_Laws_init => k_is)
    (case i_Laws_init => k_is)
    (case l_Laws_init => k_is)
    (case e_Laws_init => k_is)
    (case k_Laws_init => k_is)
    (case a_Laws_begin => k_is)
    (case i_Laws_begin => k_is)
    (case l_Laws_begin => k_is)
    (case e_Laws_begin => k_is)
    (case k_Laws_begin => k_is)
    (case a_Laws_course_of => k_is)
    (case i_Laws_course_of => k_is)
    (case l_Laws_course_of => k_is)
    (case e_Laws_course_of => k_is)
    (case k_Laws_course_of => k_is)
    (case a_Laws_commands_of => k_is)
    (case i_Laws_commands_of => k_is)
    (case l_Laws_commands_of => k_is)
    (case e_Laws_commands_of => k_is)
    (case k_Laws_commands_of => k_is)
    (case a_Laws_sections_by => k_is)
    (case i_Laws_sections_by => k_is)
    (case l_Laws_sections_by => k_is)
    (case e_Laws_sections_by => k_is)
    (case k_Laws_sections_by => k_is)
    (case a_Laws_sections_of => k_is)
    (case i_Laws_sections_of => k_is)
    (case l_Laws_sections_of => k_is)
    (case e_Laws_sections_of => k_is)
    (case k_Laws_sections_of => k_is)
    (case a_Laws_without_effect => k_is)
    (case i_Laws_without_effect => k_is)
    (case l_Laws_without_effect => k_is)
    (case e_Laws_without_effect => k_is)
    (case k_Laws_without_effect => k_is)
    (case a_in_order => k_is)
    (case l_in_order => k_is)
    (case e_in_order => k_is)
    (case k_in_order => k_is)
    (case c_in_order => k_is)
    (case p_in_order => rfl)
    (case o_in_order => kernel_rfl)
    (case a_counting_on => k_is)
    (case l_counting_on => k_is)
    (case e_counting_on => k_is)
    (case k_counting_on => k_is)
    (case a_days_above => k_is)
    (case l_days_above => k_is)
    (case e_days_above => k_is)
    (case k_days_above => k_is)
    (case a_is_askable => k_is)
    (case l_is_askable => k_is)
    (case e_is_askable => k_is)
    (case k_is_askable => k_is)
    (case a_tell_read => k_is)
    (case l_tell_read => k_is)
    (case e_tell_read => k_is)
    (case k_tell_read => k_is)
    (case a_tell_labels => k_is)
    (case l_tell_labels => k_is)
    (case e_tell_labels => k_is)
    (case k_tell_labels => k_is)
    (case a_tell_origin => k_is)
    (case l_tell_origin => k_is)
    (case e_tell_origin => k_is)
    (case k_tell_origin => k_is)
    (case a_tell_idle => k_is)
    (case l_tell_idle => k_is)
    (case e_tell_idle => k_is)
    (case k_tell_idle => k_is)
    (case a_tell_broken => k_is)
    (case l_tell_broken => k_is)
    (case e_tell_broken => k_is)
    (case k_tell_broken => k_is)
    (case a_tell_next => k_is)
    (case l_tell_next => k_is)
    (case e_tell_next => k_is)
    (case k_tell_next => k_is)
    (case a_find_section => k_is)
    (case l_find_section => k_is)
    (case e_find_section => k_is)
    (case k_find_section => k_is)
    (case a_find_text => k_is)
    (case l_find_text => k_is)
    (case e_find_text => k_is)
    (case k_find_text => k_is)
    (case a_with_size => k_is)
    (case l_with_size => k_is)
    (case e_with_size => k_is)
    (case k_with_size => k_is)
    (case a_rows_of => k_is)
    (case l_rows_of => k_is)
    (case e_rows_of => k_is)
    (case k_rows_of => k_is)
    (case a_Reader_init => k_is)
    (case i_Reader_init => k_is)
    (case l_Reader_init => k_is)
    (case e_Reader_init => k_is)
    (case k_Reader_init => k_is)
    (case a_Reader_has_more => k_is)
    (case i_Reader_has_more => k_is)
    (case l_Reader_has_more => k_is)
    (case e_Reader_has_more => k_is)
    (case k_Reader_has_more => k_is)
    (case a_Reader_next_number => k_is)
    (case i_Reader_next_number => k_is)
    (case l_Reader_next_number => k_is)
    (case e_Reader_next_number => k_is)
    (case k_Reader_next_number => k_is)
    (case a_Reader_next_row => k_is)
    (case i_Reader_next_row => k_is)
    (case l_Reader_next_row => k_is)
    (case e_Reader_next_row => k_is)
    (case k_Reader_next_row => k_is)
    (case a_answers => k_is)
    (case l_answers => k_is)
    (case e_answers => k_is)
    (case k_answers => k_is)
    (case a_answer_call => k_is)
    (case l_answer_call => k_is)
    (case e_answer_call => k_is)
    (case k_answer_call => k_is)
    (case a_answer_of_law => k_is)
    (case l_answer_of_law => k_is)
    (case e_answer_of_law => k_is)
    (case k_answer_of_law => k_is)
    (case a_read_command => k_is)
    (case l_read_command => k_is)
    (case e_read_command => k_is)
    (case k_read_command => k_is)
    (case pg_Command => k_is)
    (case hd_Command => k_is)
    (case po_Command => k_is)
    (case sa_Command => k_is)
    (case mk_Command => k_is)
    (case kc_Command => k_is)
    (case no_Command_kind => k_is)
    (case no_Command_number => k_is)
    (case no_Command_act => k_is)
    (case no_Command_law => k_is)
    (case no_Command_begins => k_is)
    (case no_Command_till => k_is)
    (case no_Command_follow => k_is)
    (case no_Command_target => k_is)
    (case no_Command_after => k_is)
    (case no_Command_label => k_is)
    (case no_Command_old => k_is)
    (case no_Command_to => k_is)
    (case no_Command_text => k_is)
    (case pg_Section => k_is)
    (case hd_Section => k_is)
    (case po_Section => k_is)
    (case sa_Section => k_is)
    (case mk_Section => k_is)
    (case kc_Section => k_is)
    (case no_Section_label => k_is)
    (case no_Section_text => k_is)
    (case no_Section_owners => k_is)
    (case pg_Step => k_is)
    (case hd_Step => k_is)
    (case po_Step => k_is)
    (case sa_Step => k_is)
    (case mk_Step => k_is)
    (case kc_Step => k_is)
    (case no_Step_number => k_is)
    (case no_Step_has_effect => k_is)
    (case no_Step_sections => k_is)
    (case pg_Course => k_is)
    (case hd_Course => k_is)
    (case po_Course => k_is)
    (case sa_Course => k_is)
    (case mk_Course => k_is)
    (case kc_Course => k_is)
    (case no_Course_steps => k_is)
    (case pg_Record => k_is)
    (case hd_Record => k_is)
    (case po_Record => k_is)
    (case sa_Record => k_is)
    (case mk_Record => k_is)
    (case kc_Record => k_is)
    (case no_Record_days => k_is)
    (case no_Record_commands => k_is)
    (case pg_Laws => k_is)
    (case hd_Laws => k_is)
    (case po_Laws => k_is)
    (case sa_Laws => k_is)
    (case mk_Laws => k_is)
    (case kc_Laws => k_is)
    (case no_Laws_record => k_is)
    (case no_Laws_courses => k_is)
    (case pg_Reader => k_is)
    (case hd_Reader => k_is)
    (case po_Reader => k_is)
    (case sa_Reader => k_is)
    (case mk_Reader => k_is)
    (case kc_Reader => k_is)
    (case no_Reader_numbers => k_is)
    (case no_Reader_place => k_is)
    (case v_ACT => k_is)
    (case v_BEGIN => k_is)
    (case v_BLANK => k_is)
    (case v_BROKEN => k_is)
    (case v_DONE => k_is)
    (case v_FOUND => k_is)
    (case v_FULL => k_is)
    (case v_IDLE => k_is)
    (case v_LABELS => k_is)
    (case v_LAST_DAY => k_is)
    (case v_LAST_FOLLOW => k_is)
    (case v_LAST_LAW => k_is)
    (case v_LAST_SIGN => k_is)
    (case v_LEFT_BRACKET => k_is)
    (case v_MOST_ACTS => k_is)
    (case v_MOST_COMMANDS => k_is)
    (case v_MOST_LABEL_BYTES => k_is)
    (case v_MOST_SECTIONS => k_is)
    (case v_MOST_SECTION_BYTES => k_is)
    (case v_MOST_TEXT_BYTES => k_is)
    (case v_NAME => k_is)
    (case v_NONE_LEFT => k_is)
    (case v_NO_ACT => k_is)
    (case v_NO_SECTION => k_is)
    (case v_ORIGIN => k_is)
    (case v_PUT => k_is)
    (case v_READ => k_is)
    (case v_RIGHT_BRACKET => k_is)
    (case v_TAKE => k_is)
    (case v_TEXT => k_is)
    (case v_TOLD => k_is)
    (case v_VOID => k_is)
    (case v_WORD => k_is)
    (case v_WRONG => k_is)
    (case z_all => k_is)
    (case z_enumerate => k_is)
    (case z_len => k_is)
    (case z_range => k_is)
    (case z_reversed => k_is)
    (case z_sorted => k_is)

  case S =>
    intro A K H xs a hT hwi hask hx
    cases hx with
    | cons h1 h2 =>
      cases h2
      cases h1 with
      | lst hs ha =>
        have e := L2.ints_dw a.1 _ ha
        subst e
        have q : ((Codec.inLen 0 31000 a.1 && a.1.all (Codec.inInt 0 4294967295)) && true) = true := hwi
        rw [Bool.and_eq_true, Bool.and_eq_true] at q
        refine ⟨_, a.1, rfl, hs, (Codec.inNat_iff.mp q.1.1).2, hask, fun x hx => ?_, LamX.TabS.nil hT, fun H' p hp => .lst (L2.SqL.of hp) (L2.dw_ints _)⟩
        have q2 := List.all_eq_true.mp q.1.2 x hx
        exact Codec.inInt_iff.mp q2
