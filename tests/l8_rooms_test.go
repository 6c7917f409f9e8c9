package tests

import (
	"slices"
	"testing"

	"loop.example/sundials/impl"
)

// roomDay is a room with lights and blinds, minute by minute.
type roomDay struct {
	warm, outside, keeps int
	lights               []int
	shut                 []bool
}

func (d roomDay) run() int {
	return impl.RoomRun(d.warm, d.outside, d.keeps, d.lights, d.shut)
}

// byDegrees is the warmth behind all minutes, by warmBehind.
func (d roomDay) byDegrees() int {
	warm := d.warm
	for i, light := range d.lights {
		if d.shut[i] {
			light = 0
		}
		warm = warmBehind(warm, d.outside, light, d.keeps)
	}
	return warm
}

// someRoomDays are rooms of every kind with up to sixty minutes of light, under blinds that are open, shut, or both by turns.
func someRoomDays() []roomDay {
	var list []roomDay
	for seed := range 400 {
		long := []int{0, 1, 2, 5, 30, 60}[seed%6]
		d := roomDay{warm: mixed(seed, 100, 501), outside: mixed(seed, 101, 501), keeps: 2 + mixed(seed, 102, 98)}
		for i := range long {
			d.lights = append(d.lights, []int{mixed(seed, i, 101), 9 + mixed(seed, i, 2), 100}[seed%3])
			d.shut = append(d.shut, []bool{false, true, mixed(seed, i+200, 2) == 1, mixed(seed, i+200, 2) == 1}[seed%4])
		}
		list = append(list, d)
	}
	return list
}

func TestP37ShutBlindsNeverMakeItWarmer(t *testing.T) {
	for _, d := range someRoomDays() {
		lights, shut := slices.Clone(d.lights), slices.Clone(d.shut)
		warm := d.run()
		if warm != d.byDegrees() || warm < 0 || warm > 500 {
			t.Error("by degrees", d, warm)
		}
		for i := range d.shut {
			more := d
			more.shut = slices.Clone(d.shut)
			more.shut[i] = true
			if got := more.run(); got > warm || got != more.byDegrees() {
				t.Error("one more minute", d, i, warm, got)
			}
		}
		for i := range len(d.lights) + 1 {
			first := roomDay{d.warm, d.outside, d.keeps, d.lights[:i], d.shut[:i]}
			second := roomDay{first.run(), d.outside, d.keeps, d.lights[i:], d.shut[i:]}
			if second.run() != warm {
				t.Error("two parts", d, i)
			}
		}
		if !slices.Equal(d.lights, lights) || !slices.Equal(d.shut, shut) {
			t.Fatal("changed", d)
		}
	}
}

func TestP37KnownRooms(t *testing.T) {
	for _, known := range []struct {
		day  roomDay
		want int
	}{
		{roomDay{200, 200, 10, []int{50, 50}, []bool{true, false}}, 205}, {roomDay{200, 200, 10, []int{50, 50}, []bool{false, false}}, 210}, {roomDay{200, 200, 10, []int{50, 50}, []bool{true, true}}, 200}, {roomDay{200, 200, 10, []int{50, 40}, []bool{false, true}}, 205},
		{roomDay{200, 100, 10, []int{100}, []bool{false}}, 200}, {roomDay{200, 100, 10, []int{100}, []bool{true}}, 190}, {roomDay{200, 100, 10, nil, nil}, 200}, {roomDay{0, 500, 2, []int{}, []bool{}}, 0}, {roomDay{500, 500, 99, slices.Repeat([]int{100}, 60), make([]bool, 60)}, 500}, {roomDay{490, 500, 11, []int{100, 100}, make([]bool, 2)}, 500},
	} {
		if got := known.day.run(); got != known.want {
			t.Error(known, got)
		}
	}
}

func TestP37OtherRoomsHaveNoWarmth(t *testing.T) {
	refused := func(d roomDay) {
		t.Helper()
		if got := d.run(); got != -1 {
			t.Error(d, got)
		}
	}
	eachOtherRoom(func(warm, outside, keeps int) {
		refused(roomDay{warm, outside, keeps, nil, nil})
		refused(roomDay{warm, outside, keeps, []int{50}, []bool{false}})
		refused(roomDay{warm, outside, keeps, []int{0, 100}, []bool{true, true}})
	})
	for _, lights := range otherLights() {
		refused(roomDay{100, 200, 10, lights, make([]bool, len(lights))})
		refused(roomDay{100, 200, 10, lights, slices.Repeat([]bool{true}, len(lights))})
	}
	// As many entries as minutes.
	for minutes := range 61 {
		for entries := range 64 {
			if got := impl.RoomRun(100, 100, 10, make([]int, minutes), make([]bool, entries)); (got == 100) != (minutes == entries) || minutes != entries && got != -1 {
				t.Error("entries", minutes, entries, got)
			}
		}
	}
	refused(roomDay{100, 100, 10, nil, []bool{false}})
	refused(roomDay{100, 100, 10, []int{0}, nil})
}

func TestP141WarmerRoomsStayWarmer(t *testing.T) {
	for _, outside := range someAirs() {
		for _, keeps := range someKeeps() {
			for warm := range 501 {
				before := -1
				for _, light := range []int{0, 1, 9, 10, 11, 19, 20, 35, 50, 99, 100} {
					got := impl.RoomStep(warm, outside, light, keeps)
					if got != warmBehind(warm, outside, light, keeps) || got < 0 || got > 500 {
						t.Fatal("by degrees", warm, outside, light, keeps, got)
					}
					if warm < 500 && impl.RoomStep(warm+1, outside, light, keeps) < got || got < before {
						t.Fatal("warmer", warm, outside, light, keeps, got)
					}
					before = got
				}
				if !inSpan(impl.RoomStep(warm, outside, 0, keeps), warm, outside) {
					t.Fatal("farther from the air", warm, outside, keeps)
				}
			}
		}
	}
}

func TestP141EveryLightAndEveryNumber(t *testing.T) {
	for light := range 101 {
		for keeps := 2; keeps <= 99; keeps++ {
			for _, warm := range []int{0, 1, 137, 250, 498, 499, 500} {
				for _, outside := range []int{0, 136, 251, 500} {
					if got := impl.RoomStep(warm, outside, light, keeps); got != warmBehind(warm, outside, light, keeps) {
						t.Fatal(warm, outside, light, keeps, got)
					}
				}
			}
		}
	}
}

func TestP141KnownWarmths(t *testing.T) {
	for _, known := range []struct{ warm, outside, light, keeps, want int }{
		{200, 100, 35, 10, 193}, {100, 205, 0, 10, 110},
		// The difference is rounded towards nothing from both sides, and the light down.
		{100, 109, 0, 10, 100}, {109, 100, 0, 10, 109}, {100, 110, 0, 10, 101}, {110, 100, 0, 10, 109}, {100, 119, 0, 10, 101}, {119, 100, 0, 10, 118}, {5, 4, 0, 2, 5}, {4, 5, 0, 2, 4}, {100, 100, 9, 10, 100}, {100, 100, 10, 10, 101}, {100, 100, 19, 10, 101}, {100, 100, 99, 10, 109}, {100, 100, 100, 10, 110}, {109, 100, 9, 10, 109},
		{500, 500, 100, 10, 500}, {495, 495, 50, 10, 500}, {495, 495, 60, 10, 500}, {495, 495, 49, 10, 499}, {500, 0, 100, 2, 260}, {500, 0, 100, 99, 500}, {500, 0, 49, 99, 499}, {0, 500, 100, 2, 260}, {0, 0, 0, 2, 0}, {1, 0, 0, 2, 1}, {2, 0, 0, 2, 1}, {0, 98, 0, 99, 0}, {0, 99, 0, 99, 1},
	} {
		if got := impl.RoomStep(known.warm, known.outside, known.light, known.keeps); got != known.want {
			t.Error(known, got)
		}
	}
}

func TestP141OtherRoomsHaveNoNextWarmth(t *testing.T) {
	eachOtherRoom(func(warm, outside, keeps int) {
		for _, light := range []int{-1, 0, 50, 100, 101} {
			if got := impl.RoomStep(warm, outside, light, keeps); got != -1 {
				t.Error("room", warm, outside, light, keeps, got)
			}
		}
	})
	for _, light := range otherFrom(0, 100) {
		for _, warm := range []int{0, 1, 250, 500} {
			if got := impl.RoomStep(warm, 100, light, 10); got != -1 {
				t.Error("light", warm, light, got)
			}
		}
	}
}

func TestP142InTheEndNothingChanges(t *testing.T) {
	for _, outside := range someAirs() {
		for _, keeps := range someKeeps() {
			for warm := range 501 {
				rest, is := impl.RoomRest(warm, outside, keeps), warm
				for minute := range rest {
					next := warmBehind(is, outside, 0, keeps)
					if next == is || impl.RoomStep(is, outside, 0, keeps) != next {
						t.Fatal("too early", warm, outside, keeps, minute)
					}
					is = next
				}
				if rest < 0 || warmBehind(is, outside, 0, keeps) != is || impl.RoomStep(is, outside, 0, keeps) != is || is-outside >= keeps || outside-is >= keeps {
					t.Fatal("rest", warm, outside, keeps, rest, is)
				}
			}
		}
	}
}

func TestP142KnownRests(t *testing.T) {
	for _, known := range []struct{ warm, outside, keeps, want int }{
		{100, 111, 10, 2}, {111, 100, 10, 2}, {100, 110, 10, 1}, {100, 109, 10, 0}, {109, 100, 10, 0}, {100, 100, 10, 0}, {0, 1, 2, 0}, {0, 2, 2, 1}, {2, 0, 2, 1}, {0, 7, 2, 3}, {0, 0, 99, 0}, {500, 500, 2, 0}, {0, 500, 2, 9}, {500, 0, 2, 9}, {0, 98, 99, 0}, {0, 100, 99, 2},
	} {
		if got := impl.RoomRest(known.warm, known.outside, known.keeps); got != known.want {
			t.Error(known, got)
		}
	}
	eachOtherRoom(func(warm, outside, keeps int) {
		if got := impl.RoomRest(warm, outside, keeps); got != -1 {
			t.Error("other room", warm, outside, keeps, got)
		}
	})
}
