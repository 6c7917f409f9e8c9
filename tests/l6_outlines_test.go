package tests

import (
	"slices"
	"testing"

	"loop.example/sundials/impl"
)

// somePlaces are all places of a street, and places outside of it.
func somePlaces() []int {
	list := otherFrom(0, 40)
	for place := -3; place <= 43; place++ {
		list = append(list, place)
	}
	return list
}

// someOutlines are those of some rows, and others with many edges.
func someOutlines() [][]impl.Edge {
	list := [][]impl.Edge{{edge(0, 1), edge(4, 0)}, {edge(39, 20), edge(40, 0)}, {edge(0, 20), edge(40, 0)}, {edge(1, 3), edge(2, 0), edge(3, 3), edge(4, 0)}}
	for _, row := range someRows() {
		list = append(list, changesOf(talls(row)))
	}
	var most, comb []impl.Edge
	for at := range 40 {
		most = append(most, edge(at, 1+at%20))
		comb = append(comb, edge(at, 20*((at+1)%2)))
	}
	return append(list, append(most, edge(40, 0)), comb)
}

// streetUnder are the heights under an outline.
func streetUnder(line []impl.Edge) [40]int {
	var street [40]int
	for i, e := range line[:max(len(line)-1, 0)] {
		for place := e.At; place < line[i+1].At; place++ {
			street[place] = e.Tall
		}
	}
	return street
}

func TestP27TheOutlineTellsTheHouses(t *testing.T) {
	for _, row := range someRows() {
		kept := slices.Clone(row)
		line := impl.OutlineOf(row)
		if !impl.OutlineValid(line) || !slices.Equal(line, changesOf(talls(row))) {
			t.Fatal("outline", row, line)
		}
		for _, place := range somePlaces() {
			if want := impl.HousesAt(row, place); impl.OutlineAt(line, place) != want || want != tallOver(row, place) {
				t.Error("as high", row, line, place)
			}
		}
		other := slices.Clone(row)
		for i := range other {
			other[0], other[i] = other[i], other[0]
			if !slices.Equal(impl.OutlineOf(other), line) {
				t.Error("other order", row, other)
			}
		}
		slices.Reverse(other)
		if !slices.Equal(impl.OutlineOf(other), line) {
			t.Error("backwards", row, other)
		}
		if !slices.Equal(row, kept) {
			t.Fatal("changed", kept, row)
		}
	}
}

func TestP27KnownHouses(t *testing.T) {
	for _, street := range []struct {
		row  []impl.House
		want []impl.Edge
	}{
		{nil, nil}, {[]impl.House{house(0, 40, 20)}, []impl.Edge{edge(0, 20), edge(40, 0)}}, {[]impl.House{house(39, 40, 1)}, []impl.Edge{edge(39, 1), edge(40, 0)}},
		{[]impl.House{house(1, 5, 3), house(3, 7, 4), house(7, 9, 4)}, []impl.Edge{edge(1, 3), edge(3, 4), edge(9, 0)}},
		// Houses that touch have one edge between them, and none if they are as high.
		{[]impl.House{house(2, 4, 5), house(4, 6, 5)}, []impl.Edge{edge(2, 5), edge(6, 0)}}, {[]impl.House{house(2, 4, 5), house(4, 6, 7)}, []impl.Edge{edge(2, 5), edge(4, 7), edge(6, 0)}},
		{[]impl.House{house(4, 6, 5), house(2, 4, 7)}, []impl.Edge{edge(2, 7), edge(4, 5), edge(6, 0)}}, {[]impl.House{house(2, 4, 5), house(5, 6, 5)}, []impl.Edge{edge(2, 5), edge(4, 0), edge(5, 5), edge(6, 0)}},
		{[]impl.House{house(0, 9, 9), house(3, 6, 4)}, []impl.Edge{edge(0, 9), edge(9, 0)}}, {[]impl.House{house(0, 9, 4), house(3, 6, 9)}, []impl.Edge{edge(0, 4), edge(3, 9), edge(6, 4), edge(9, 0)}},
	} {
		if got := impl.OutlineOf(street.row); !slices.Equal(got, street.want) {
			t.Error(street.row, got)
		}
	}
	for _, row := range otherRows() {
		if got := impl.OutlineOf(row); len(got) != 0 {
			t.Error("other houses", row, got)
		}
	}
}

func TestP28OutlinesJoinInAnyGroups(t *testing.T) {
	rows := someRows()
	for i, first := range rows {
		a := impl.OutlineOf(first)
		if !slices.Equal(impl.OutlineJoin(a, a), a) || !slices.Equal(impl.OutlineJoin(a, nil), a) || !slices.Equal(impl.OutlineJoin(nil, a), a) {
			t.Error("with itself", a)
		}
		for j := range 40 {
			second, third := rows[mixed(i, j, len(rows))], rows[mixed(j, i, len(rows))]
			b, c := impl.OutlineOf(second), impl.OutlineOf(third)
			join := impl.OutlineJoin(a, b)
			both := slices.Concat(first, second)
			if !slices.Equal(join, changesOf(talls(both))) || len(both) <= 6 && !slices.Equal(join, impl.OutlineOf(both)) {
				t.Error("both rows", first, second, join)
			}
			if !slices.Equal(join, impl.OutlineJoin(b, a)) {
				t.Error("exchanged", a, b)
			}
			if !slices.Equal(impl.OutlineJoin(join, c), impl.OutlineJoin(a, impl.OutlineJoin(b, c))) {
				t.Error("three", a, b, c)
			}
		}
	}
}

func TestP28KnownJoins(t *testing.T) {
	a := []impl.Edge{edge(1, 3), edge(3, 4), edge(9, 0)}
	for _, streets := range []struct{ b, want []impl.Edge }{
		{nil, a}, {a, a}, {[]impl.Edge{edge(0, 1), edge(4, 0)}, []impl.Edge{edge(0, 1), edge(1, 3), edge(3, 4), edge(9, 0)}},
		{[]impl.Edge{edge(9, 4), edge(10, 0)}, []impl.Edge{edge(1, 3), edge(3, 4), edge(10, 0)}}, {[]impl.Edge{edge(1, 4), edge(3, 0)}, []impl.Edge{edge(1, 4), edge(9, 0)}},
		{[]impl.Edge{edge(0, 20), edge(40, 0)}, []impl.Edge{edge(0, 20), edge(40, 0)}}, {[]impl.Edge{edge(39, 1), edge(40, 0)}, []impl.Edge{edge(1, 3), edge(3, 4), edge(9, 0), edge(39, 1), edge(40, 0)}},
	} {
		kept, keptB := slices.Clone(a), slices.Clone(streets.b)
		got := impl.OutlineJoin(a, streets.b)
		if !slices.Equal(got, streets.want) {
			t.Error(streets, got)
		}
		for i := range got {
			got[i] = edge(-9, -9)
		}
		if !slices.Equal(a, kept) || !slices.Equal(streets.b, keptB) {
			t.Fatal("shares memory", streets, a)
		}
	}
	for _, other := range otherOutlines() {
		for _, line := range someOutlines() {
			if len(impl.OutlineJoin(line, other)) != 0 || len(impl.OutlineJoin(other, line)) != 0 {
				t.Error("other outline", line, other)
			}
		}
		if len(impl.OutlineJoin(other, other)) != 0 {
			t.Error("two others", other)
		}
	}
}

func TestP116HousesCanBeTornDown(t *testing.T) {
	for _, row := range someRows() {
		if !impl.HousesValid(row) {
			t.Error("valid", row)
		}
		for i, h := range row {
			if !impl.HousesValid(row[1:]) || !impl.HousesValid(slices.Delete(slices.Clone(row), i, i+1)) {
				t.Error("a house less", row, i)
			}
			for _, other := range []impl.House{house(h.From, h.From, h.Tall), house(h.To, h.To, h.Tall), house(h.To, h.From, h.Tall), house(h.From, h.To, 0), house(h.From, h.To, 21), house(-1, h.To, h.Tall), house(h.From, 41, h.Tall)} {
				changed := slices.Clone(row)
				changed[i] = other
				if impl.HousesValid(changed) {
					t.Error("other house", changed)
				}
			}
		}
	}
	for from := -2; from <= 42; from++ {
		for to := -2; to <= 42; to++ {
			for _, tall := range []int{-1, 0, 1, 20, 21} {
				want := from >= 0 && from <= 39 && to > from && to <= 40 && tall >= 1 && tall <= 20
				if impl.HousesValid([]impl.House{house(from, to, tall)}) != want {
					t.Error("one house", from, to, tall)
				}
			}
		}
	}
	for _, row := range otherRows() {
		if impl.HousesValid(row) {
			t.Error("other row", row)
		}
	}
}

func TestP117TheHighestHouseCounts(t *testing.T) {
	for _, row := range someRows() {
		for _, place := range somePlaces() {
			tall, asHigh := impl.HousesAt(row, place), false
			for _, h := range row {
				if stands := h.From <= place && h.To > place; stands && h.Tall > tall {
					t.Error("higher", row, place, tall)
				} else if stands && h.Tall == tall {
					asHigh = true
				}
			}
			if !asHigh && tall != 0 || tall != tallOver(row, place) {
				t.Error("as high", row, place, tall)
			}
		}
	}
	row := []impl.House{house(1, 5, 3), house(3, 7, 4), house(7, 9, 4)}
	for place, want := range map[int]int{-1: 0, 0: 0, 1: 3, 2: 3, 3: 4, 4: 4, 6: 4, 7: 4, 8: 4, 9: 0, 40: 0} {
		if got := impl.HousesAt(row, place); got != want {
			t.Error("known place", place, got)
		}
	}
	for _, row := range otherRows() {
		for _, place := range somePlaces() {
			if got := impl.HousesAt(row, place); got != 0 {
				t.Error("other houses", row, place, got)
			}
		}
	}
}

func TestP118OutlinesEndOnTheGround(t *testing.T) {
	if !impl.OutlineValid(nil) || !impl.OutlineValid([]impl.Edge{}) {
		t.Error("without edges")
	}
	for _, line := range someOutlines() {
		if !impl.OutlineValid(line) {
			t.Error("valid", line)
		}
		if len(line) > 0 && impl.OutlineValid(line[:len(line)-1]) {
			t.Error("without its last edge", line)
		}
		for i, e := range line {
			for _, other := range []impl.Edge{edge(-1, e.Tall), edge(41, e.Tall), edge(e.At, -1), edge(e.At, 21)} {
				changed := slices.Clone(line)
				changed[i] = other
				if impl.OutlineValid(changed) {
					t.Error("other edge", changed)
				}
			}
			if impl.OutlineValid(slices.Insert(slices.Clone(line), i, e)) {
				t.Error("twice", line, i)
			}
		}
	}
	for _, line := range otherOutlines() {
		if impl.OutlineValid(line) {
			t.Error("other outline", line)
		}
	}
}

func TestP119EdgesChangeTheHeight(t *testing.T) {
	for _, line := range someOutlines() {
		for _, e := range line {
			if impl.OutlineAt(line, e.At) != e.Tall || impl.OutlineAt(line, e.At-1) == e.Tall {
				t.Error("edge", line, e)
			}
		}
		street := streetUnder(line)
		for _, place := range somePlaces() {
			want := 0
			if place >= 0 && place < 40 {
				want = street[place]
			}
			if got := impl.OutlineAt(line, place); got != want {
				t.Error("height", line, place, got, want)
			}
		}
	}
	for _, line := range otherOutlines() {
		for _, place := range somePlaces() {
			if got := impl.OutlineAt(line, place); got != 0 {
				t.Error("other outline", line, place, got)
			}
		}
	}
}

func TestP120AreasAreToldByEdges(t *testing.T) {
	for _, line := range someOutlines() {
		kept := slices.Clone(line)
		want := 0
		for i := 1; i < len(line); i++ {
			want += line[i-1].Tall * (line[i].At - line[i-1].At)
		}
		under := 0
		for _, tall := range streetUnder(line) {
			under += tall
		}
		if got := impl.OutlineArea(line); got != want || got != under {
			t.Error("area", line, got, want, under)
		}
		if !slices.Equal(line, kept) {
			t.Fatal("changed", kept, line)
		}
	}
	if impl.OutlineArea(nil) != 0 || impl.OutlineArea([]impl.Edge{edge(0, 20), edge(40, 0)}) != 800 || impl.OutlineArea([]impl.Edge{edge(39, 7), edge(40, 0)}) != 7 {
		t.Error("known areas")
	}
	for _, line := range otherOutlines() {
		if got := impl.OutlineArea(line); got != -1 {
			t.Error("other outline", line, got)
		}
	}
}
