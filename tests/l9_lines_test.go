package tests

import (
	"math"
	"slices"
	"testing"

	"loop.example/sundials/impl"
)

// friendsIn are the sets of so many plants of which the k-th two are friends if the bit k of a number is set.
func friendsIn(many, pairs int) []int {
	friends := make([]int, many)
	for later := range many {
		for plant := range later {
			if pairs&1 == 1 {
				friends[plant] |= 1 << later
				friends[later] |= 1 << plant
			}
			pairs >>= 1
		}
	}
	return friends
}

// someFriends are all those of up to five plants, and of six plants all friends, none, a line, a ring, a star, two groups, and mixed ones.
func someFriends() [][]int {
	list := [][]int{nil}
	for many := range 6 {
		for pairs := range 1 << (many * (many - 1) / 2) {
			list = append(list, friendsIn(many, pairs))
		}
	}
	list = append(list, []int{62, 61, 59, 55, 47, 31}, make([]int, 6), []int{2, 5, 10, 20, 40, 16}, []int{34, 5, 10, 20, 40, 17}, []int{62, 1, 1, 1, 1, 1}, []int{6, 5, 3, 48, 40, 24}, []int{32, 32, 32, 32, 32, 31})
	for seed := range 150 {
		// Few friends, and then more and more of them.
		pairs := 0
		for k := range 15 {
			if mixed(seed, k, 150) < 30+seed {
				pairs |= 1 << k
			}
		}
		list = append(list, friendsIn(6, pairs))
	}
	return list
}

// otherFriends are friends that are not valid, each for one reason.
func otherFriends() [][]int {
	list := [][]int{
		{1}, {0, 2}, {2, 0}, {0, 1}, {3, 1}, {2, 3}, {2, 5, 0}, {2, 4, 2}, {6, 1, 0}, {4, 0, 0}, {0, 0, 1}, {6, 5, 7}, {2, 5, 2, 8}, {62, 61, 59, 55, 47, 63}, {62, 61, 59, 55, 47, 30},
		// Sets of plants that there are not.
		{2}, {4}, {6, 1}, {2, 5}, {10, 5, 2}, {64, 0, 0, 0, 0, 0}, {0, 0, 0, 0, 0, 64}, {-2, -3}, {-1, 1}, {2, -1}, {2, math.MinInt + 1}, {math.MinInt}, {0, math.MinInt},
		make([]int, 7), make([]int, 1000), {126, 125, 123, 119, 111, 95, 63},
	}
	for many := 1; many <= 6; many++ {
		for _, n := range otherFrom(0, 1<<many-1) {
			friends := make([]int, many)
			friends[many-1] = n
			list = append(list, friends)
		}
	}
	return list
}

// eachFriends calls f for some friends.
func eachFriends(t *testing.T, f func(friends []int)) {
	t.Helper()
	for _, friends := range someFriends() {
		kept := slices.Clone(friends)
		f(friends)
		if !slices.Equal(friends, kept) {
			t.Error("changed", kept, friends)
		}
		if t.Failed() {
			t.FailNow()
		}
	}
}

// ordersOf are all orders of so many plants, each before those that have a greater index at the first difference.
func ordersOf(many int) [][]int {
	orders := [][]int{nil}
	for range many {
		var longer [][]int
		for _, order := range orders {
			for plant := range many {
				if !slices.Contains(order, plant) {
					longer = append(longer, append(slices.Clone(order), plant))
				}
			}
		}
		orders = longer
	}
	return orders
}

// stands reports whether each two side by side in an order of all plants are friends.
func stands(friends, order []int) bool {
	for i := 1; i < len(order); i++ {
		if friends[order[i-1]]&(1<<order[i]) == 0 {
			return false
		}
	}
	return true
}

// linesOf are all orders in which plants may stand.
func linesOf(friends []int, orders [][]int) [][]int {
	var lines [][]int
	for _, order := range orders {
		if stands(friends, order) {
			lines = append(lines, order)
		}
	}
	return lines
}

// allOrders are the orders of 0 to 6 plants.
func allOrders() [7][][]int {
	var orders [7][][]int
	for many := range orders {
		orders[many] = ordersOf(many)
	}
	return orders
}

func TestP42LinesComeInPairs(t *testing.T) {
	orders := allOrders()
	eachFriends(t, func(friends []int) {
		many, lines := impl.LinesMany(friends), linesOf(friends, orders[len(friends)])
		if many != len(lines) {
			t.Error("lines", friends, many, len(lines))
		}
		if len(friends) >= 2 && many%2 != 0 {
			t.Error("odd", friends, many)
		}
		if _, ok := impl.LineFirst(friends); ok != (many != 0) {
			t.Error("the first of none", friends, many, ok)
		}
	})
	factorial := 1
	for many := range 7 {
		factorial *= max(many, 1)
		if got := impl.LinesMany(friendsIn(many, math.MaxInt)); got != factorial {
			t.Error("all side by side", many, got)
		}
	}
}

func TestP42KnownLines(t *testing.T) {
	for _, known := range []struct {
		friends []int
		many    int
		first   []int
	}{
		{nil, 1, nil}, {[]int{}, 1, nil}, {[]int{0}, 1, []int{0}}, {[]int{0, 0}, 0, nil}, {[]int{2, 1}, 2, []int{0, 1}}, {[]int{2, 5, 2}, 2, []int{0, 1, 2}}, {[]int{4, 4, 3}, 2, []int{0, 2, 1}}, {[]int{6, 1, 1}, 2, []int{1, 0, 2}}, {[]int{6, 5, 3}, 6, []int{0, 1, 2}},
		{[]int{2, 1, 8, 4}, 0, nil}, {[]int{14, 1, 1, 1}, 0, nil}, {[]int{2, 5, 10, 20, 40, 16}, 2, []int{0, 1, 2, 3, 4, 5}}, {[]int{34, 5, 10, 20, 40, 17}, 12, []int{0, 1, 2, 3, 4, 5}}, {[]int{62, 61, 59, 55, 47, 31}, 720, []int{0, 1, 2, 3, 4, 5}}, {[]int{6, 5, 3, 48, 40, 24}, 0, nil},
		// A first step that leads nowhere is left out.
		{[]int{14, 5, 3, 1}, 4, []int{1, 2, 0, 3}}, {[]int{10, 5, 2, 1}, 2, []int{2, 1, 0, 3}},
	} {
		first, ok := impl.LineFirst(known.friends)
		if got := impl.LinesMany(known.friends); got != known.many || ok != (known.many > 0) || !slices.Equal(first, known.first) {
			t.Error(known, got, first, ok)
		}
	}
}

func TestP42OtherFriendsHaveNoLines(t *testing.T) {
	for _, friends := range otherFriends() {
		if got := impl.LinesMany(friends); got != -1 {
			t.Error("lines", friends, got)
		}
		if order, ok := impl.LineFirst(friends); ok || len(order) != 0 {
			t.Error("first", friends, order, ok)
		}
		if len(friends) > 7 {
			continue
		}
		for _, order := range append(ordersOf(min(len(friends), 5)), []int{0, 1, 2, 3, 4, 5}, []int{6, 5, 4, 3, 2, 1, 0}) {
			if impl.LineOk(friends, order) {
				t.Error("order", friends, order)
			}
		}
	}
}

func TestP154NobodyHasToHaveFriends(t *testing.T) {
	for many := range 12 {
		if impl.FriendsValid(make([]int, many)) != (many <= 6) {
			t.Error("without friends", many)
		}
	}
	eachFriends(t, func(friends []int) {
		if !impl.FriendsValid(friends) {
			t.Error("friends", friends)
		}
		for plant := range friends {
			// Oneself, a plant that there is not, or a friend in one direction alone.
			for other := range len(friends) + 1 {
				changed := slices.Clone(friends)
				changed[plant] ^= 1 << other
				if impl.FriendsValid(changed) {
					t.Error("changed friends", friends, plant, other, changed)
				}
			}
		}
	})
	// Sets of up to three plants, with numbers that are none of them.
	eachListOf([]int{-2, -1, 0, 1, 2, 3, 4, 5, 6, 7, 8, 9}, 3, func(friends []int) {
		want := true
		for plant, set := range friends {
			want = want && set >= 0 && set < 1<<len(friends) && set&(1<<plant) == 0
			for other := range friends {
				want = want && (set&(1<<other) != 0) == (friends[other]&(1<<plant) != 0)
			}
		}
		if impl.FriendsValid(friends) != want {
			t.Error("sets", friends, want)
		}
	})
	for _, friends := range otherFriends() {
		if impl.FriendsValid(friends) {
			t.Error("other friends", friends)
		}
	}
}

func TestP155LinesCanBeWalkedBack(t *testing.T) {
	orders := allOrders()
	eachFriends(t, func(friends []int) {
		many := impl.LinesMany(friends)
		for _, order := range orders[len(friends)] {
			ok := impl.LineOk(friends, order)
			if ok != stands(friends, order) {
				t.Error("order", friends, order, ok)
			}
			back := slices.Clone(order)
			slices.Reverse(back)
			if ok && (!impl.LineOk(friends, back) || many == 0) {
				t.Error("walked back", friends, order, many)
			}
		}
	})
}

func TestP155OtherOrdersAreNone(t *testing.T) {
	for many := range 7 {
		friends := friendsIn(many, math.MaxInt)
		eachListOf([]int{-1, 0, 1, 2, 3, 6, 64}, 4, func(order []int) {
			kept := slices.Clone(order)
			want := len(order) == many
			for plant := range many {
				want = want && slices.Contains(order, plant)
			}
			if impl.LineOk(friends, order) != want {
				t.Error("order", friends, order, want)
			}
			if !slices.Equal(order, kept) {
				t.Error("changed", kept, order)
			}
		})
		for _, n := range otherFrom(0, many-1) {
			for i := range many {
				order := slices.Clone(ordersOf(many)[0])
				order[i] = n
				if impl.LineOk(friends, order) {
					t.Error("other plant", many, order)
				}
			}
		}
	}
	for _, order := range [][]int{{1, 0, 2}, {0, 2, 1}, {0, 1, 1}, {0, 1, 0}, {0, 1}, {0, 1, 2, 1}, {0}, nil, {1, 1, 1}} {
		if impl.LineOk([]int{2, 5, 2}, order) {
			t.Error("no line", order)
		}
	}
	if !impl.LineOk(nil, nil) || !impl.LineOk([]int{}, []int{}) || impl.LineOk(nil, []int{0}) || !impl.LineOk([]int{0}, []int{0}) || impl.LineOk([]int{0}, []int{1}) || impl.LineOk([]int{0}, []int{0, 0}) {
		t.Error("no plants, and one")
	}
}

func TestP156TheFirstLineIsOne(t *testing.T) {
	orders := allOrders()
	eachFriends(t, func(friends []int) {
		order, ok := impl.LineFirst(friends)
		lines := linesOf(friends, orders[len(friends)])
		if ok != (len(lines) > 0) || ok && !slices.Equal(order, lines[0]) || !ok && len(order) != 0 {
			t.Error("first", friends, order, ok)
			return
		}
		if ok && !impl.LineOk(friends, order) || ok && len(order) >= 2 && order[0] >= order[len(order)-1] {
			t.Error("one", friends, order)
		}
		for i := range order {
			order[i] = -9
		}
		if again, _ := impl.LineFirst(friends); slices.Contains(again, -9) {
			t.Error("shares memory", friends, again)
		}
	})
}
