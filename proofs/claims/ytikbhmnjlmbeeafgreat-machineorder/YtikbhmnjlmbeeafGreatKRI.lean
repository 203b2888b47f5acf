/- Texts of the proof, merged: Math28. -/
import Derived.Test.YtikbhmnjlmbeeafGreatKRH

namespace Go.Mk
open Go Go.RowKit

theorem zok {i t : Nat} {r : Rp} (hi : i < 3) (ht : t < 8) (h : zpi r) : zbu ⟨i,t,r⟩ = 0:=by
 obtain ⟨h1,h2,h3,h4,h5⟩:=h
 unfold zbu
 rw [if_neg]
 simp only []
 omega
theorem zmf {l : List (List Cl)} (hl : zbF l) {m : Mc} {ks : List Nat} {bz : Option Nat} (h : MInv l m ks bz) :
  (zaL m.store m.server).2.2.1 = [] ∨ ∃ (i : Nat) (t : Int) (r : Rp),zbu ⟨i,t,r⟩ = 0 /\ i < m.clients.length /\ (zaL m.store m.server).2.2.1 = zci ⟨i,t,r⟩:=by
 have h3:=hl.1
 have h8 : ∀ i,(l.getD i []).length <= 8:=fun i=>by
  rw [List.getD_eq_getElem?_getD]
  cases e : l[i]? with
  | none=>simp
  | some x=>exact (hl.2 x (List.mem_of_getElem? e)).1
 cases bz with
 | some i =>
  have hbusy : m.server.busy = true:=h.busy
  obtain ⟨hi,w2,w3,w4,w5⟩:=h.work i rfl
  obtain ⟨c,hc⟩ : ∃ c,m.clients[i]? = some c:=⟨_,List.getElem?_eq_getElem (by rw [h.nc]; exact hi)⟩
  have ci:=h.clients i c hc
  rw [zeb hc] at w2
  cases hp : m.server.plan with
  | cons q rest=>rw [zhU hbusy hp]; exact .inl rfl
  | nil =>
   have p5 : c.got.length < (l.getD i []).length:=by
    cases ci.phase with
    | rest a b=>exact absurd rfl b
    | wait a b=>exact absurd rfl b
    | work a b d e f g k=>exact g
    | hear a b=>exact absurd rfl b
    | lost a b=>exact absurd rfl b
   have hk:=zfF hl hi p5
   rw [zhr hbusy hp,w2]
   refine .inr ⟨i,c.got.length,m.server.says,zok (by omega) (by have:=h8 i; omega) ?_,by rw [h.nc]; exact hi,rfl⟩
   rw [w3,w2]
   exact zmx (zgL hl h.past) hk
 | none =>
  have hbusy : m.server.busy = false:=h.busy
  cases ks with
  | nil=>rw [ziz hbusy (by rw [h.box]; rfl)]; exact .inl rfl
  | cons k ks =>
   have hk : k < l.length:=h.ksl k (by simp)
   obtain ⟨c,hc⟩ : ∃ c,m.clients[k]? = some c:=⟨_,List.getElem?_eq_getElem (by rw [h.nc]; exact hk)⟩
   have ci:=h.clients k c hc
   have p5 : c.got.length < (l.getD k []).length:=by
    cases ci.phase with
    | rest a=>exact absurd (by simp) a
    | wait a b d e f g=>exact g
    | work a=>exact absurd (by simp) a
    | hear a=>exact absurd (by simp) a
    | lost a=>exact absurd (by simp) a
   have hbox : m.server.box = zcp (zcd l k c.got.length) :: ks.map (fun k=>zcp (zcd l k (zdi m.clients k))):=by
    rw [h.box,List.map_cons,zeb hc]
   have hlast:=ci.last
   have htl:=zfW m.store.past k
   have hmost:=ci.most
   have hS:=serve_take (s:=m.store) hbusy hbox (zhH hl hk p5)
   rw [show (zcd l k c.got.length).client = (k : Int) from rfl,hlast] at hS
   rw [hS]
   by_cases hz : (zcR m.store.past k).length = 0
   ·rw [if_pos hz,if_neg (by simp)]
    exact .inl rfl
   ·rw [if_neg hz]
    have h8k:=h8 k
    repeat' split
    ·exact .inr ⟨k,((zcR m.store.past k).length - 1 : Nat),_,zjC hl h.past hk (by omega) (by omega),by rw [h.nc]; exact hk,rfl⟩
    ·exact .inl rfl
    ·exact .inl rfl
end Go.Mk
