package tests

import (
	"slices"
	"testing"

	"loop.example/sundials/impl"
)

func TestP29NoFaceGainsMoreThanOneThatLooksAtTheSun(t *testing.T) {
	for _, f := range someFaces() {
		for _, r := range someRays() {
			gain := impl.FaceGain(f, r)
			if gain != gainBySquares(f, r) {
				t.Error("gain", f, r, gain)
			}
			faceSquare, raySquare := f.East*f.East+f.North*f.North+f.Up*f.Up, r.East*r.East+r.North*r.North+r.Up*r.Up
			if gain < 0 || gain*gain > faceSquare*raySquare {
				t.Error("more than at the sun", f, r, gain)
			}
			if impl.FaceGain(turnedFace(f), impl.RayTurn(r)) != gain {
				t.Error("turned", f, r, gain)
			}
		}
		if f.Up > 0 {
			if gain := impl.FaceGain(f, ray(f.East, f.North, f.Up)); gain != f.East*f.East+f.North*f.North+f.Up*f.Up {
				t.Error("at the sun", f, gain)
			}
		}
	}
}

func TestP29KnownGains(t *testing.T) {
	for _, panel := range []struct {
		f    impl.Face
		r    impl.Ray
		want int
	}{
		{face(0, -3, 4), ray(0, -2, 1), 10}, {face(0, 1, 0), ray(0, -2, 1), 0}, {face(0, -3, 4), ray(0, 0, 2), 8}, {face(10, 10, 10), ray(20, 20, 20), 600}, {face(-10, -10, 10), ray(20, 20, 20), 0},
		// Along the edge it gains nothing, and just beside it a little.
		{face(1, 0, 0), ray(0, 5, 3), 0}, {face(1, 0, 0), ray(1, 5, 3), 1}, {face(-1, 0, 1), ray(2, 0, 2), 0}, {face(-1, 0, 1), ray(2, 0, 3), 1}, {face(-1, 0, 1), ray(3, 0, 2), 0}, {face(0, 0, 1), ray(-20, 20, 1), 1},
	} {
		if got := impl.FaceGain(panel.f, panel.r); got != panel.want {
			t.Error(panel, got)
		}
	}
}

func TestP29OtherFacesAndDirectionsGainNothing(t *testing.T) {
	for _, f := range otherFaces() {
		for _, r := range append(otherRays(), ray(0, 0, 1), ray(-2, 3, 1), ray(20, 20, 20)) {
			if got := impl.FaceGain(f, r); got != -1 {
				t.Error("other face", f, r, got)
			}
		}
	}
	for _, r := range otherRays() {
		for _, f := range []impl.Face{face(0, 0, 1), face(-10, 10, 0), face(1, 2, 3), face(10, 10, 10)} {
			if got := impl.FaceGain(f, r); got != -1 {
				t.Error("other direction", f, r, got)
			}
		}
	}
}

func TestP121AFaceLooksSomewhere(t *testing.T) {
	for east := -12; east <= 12; east++ {
		for north := -12; north <= 12; north++ {
			for up := -12; up <= 12; up++ {
				f := face(east, north, up)
				want := max(east, -east, north, -north, up) <= 10 && up >= 0 && f != impl.Face{}
				if impl.FaceValid(f) != want || impl.FaceValid(turnedFace(f)) != want {
					t.Error("face", f, want)
				}
			}
		}
	}
	for _, f := range someFaces() {
		if !impl.FaceValid(f) || !impl.FaceValid(turnedFace(f)) || impl.FaceValid(face(f.East, f.North, -f.Up-1)) {
			t.Error("some face", f)
		}
	}
	for _, f := range otherFaces() {
		if impl.FaceValid(f) {
			t.Error("other face", f)
		}
	}
}

func TestP122GainsAddUp(t *testing.T) {
	rays := fewRays()
	kept := slices.Clone(rays)
	for _, f := range someFaces() {
		all, sum := impl.FaceSum(f, rays), 0
		for i, r := range rays {
			if impl.FaceSum(f, rays[:i])+impl.FaceSum(f, rays[i:]) != all || impl.FaceSum(f, rays[:i]) != sum {
				t.Error("two parts", f, i, all)
			}
			if one := impl.FaceSum(f, rays[i:i+1]); one != gainBySquares(f, r) || one != impl.FaceGain(f, r) {
				t.Error("one direction", f, r, one)
			}
			sum += gainBySquares(f, r)
		}
		if all != sum || impl.FaceSum(f, slices.Concat(rays, rays)) != 2*sum || impl.FaceSum(f, nil) != 0 || impl.FaceSum(f, []impl.Ray{}) != 0 {
			t.Error("all", f, all, sum)
		}
	}
	if !slices.Equal(rays, kept) {
		t.Error("changed", rays)
	}
	if impl.FaceSum(face(0, -3, 4), []impl.Ray{ray(0, -2, 1), ray(0, 0, 2)}) != 18 || impl.FaceSum(face(0, 1, 0), []impl.Ray{ray(0, -2, 1), ray(0, 3, 1), ray(0, -2, 1)}) != 3 {
		t.Error("known sums")
	}
}

func TestP122OtherFacesAndDirectionsHaveNoSum(t *testing.T) {
	fine := []impl.Ray{ray(0, 0, 1), ray(-2, 3, 1), ray(20, 20, 20)}
	for _, f := range otherFaces() {
		for _, rays := range [][]impl.Ray{nil, {}, fine[:1], fine, {{}}} {
			if got := impl.FaceSum(f, rays); got != -1 {
				t.Error("other face", f, rays, got)
			}
		}
	}
	for _, r := range otherRays() {
		for i := 0; i <= len(fine); i++ {
			if got := impl.FaceSum(face(0, -3, 4), slices.Insert(slices.Clone(fine), i, r)); got != -1 {
				t.Error("other direction", r, i, got)
			}
		}
	}
}
