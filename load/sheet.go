package load

import (
	"strconv"
	"strings"

	"windsock/api"
)

const (
	digitsMost = 10 // digits of a number of a sheet
	checkPrime = 97 // each digit matters modulo a prime that does not divide 10
)

// lastLine returns the last line of a sheet whose numbers have a sum.
func lastLine(sum int) string {
	check := sum % checkPrime
	return "end " + strconv.Itoa(check/10) + strconv.Itoa(check%10) + "\n"
}

// howOf returns the word that says whether floats are pumped out.
func howOf(pump bool) string {
	if pump {
		return "pump"
	}
	return "keep"
}

// writer is a sheet that is written, and the sum of its numbers.
type writer struct {
	text strings.Builder
	sum  int
}

func (w *writer) line(words string, numbers ...int) {
	w.text.WriteString(words)
	for _, x := range numbers {
		w.text.WriteString(" " + strconv.Itoa(x))
		w.sum += x
	}
	w.text.WriteString("\n")
}

// sheetOf returns the sheet of a trip that is as defined.
func sheetOf(fuel api.Span, legs []api.LoadLeg) string {
	w := &writer{}
	w.line("trip", fuel.Low, fuel.High, len(legs))
	for _, leg := range legs {
		w.line("leg "+howOf(leg.Pump), leg.Fuel, leg.Burn.Low, leg.Burn.High, leg.Leak.Low, leg.Leak.High, len(leg.Items))
		for _, item := range leg.Items {
			w.line("item", item.Station, item.Weight.Low, item.Weight.High)
		}
	}
	return w.text.String() + lastLine(w.sum)
}

// noSheet is why reading is given up: the text does not have the form of a sheet.
type noSheet struct{}

// reader is what is left of a text that is read, and the sum of the numbers that were read.
type reader struct {
	rest string
	sum  int
}

// tripOf returns the trip of a text, and whether this has the form of a sheet.
func tripOf(text string) (fuel api.Span, legs []api.LoadLeg, is bool) {
	defer func() {
		if _, gaveUp := recover().(noSheet); gaveUp {
			fuel, legs, is = api.Span{}, nil, false
		}
	}()
	r := &reader{rest: text}
	r.skip("trip ")
	numbers := r.numbers(3)
	fuel = span(numbers[0], numbers[1])
	// A count can be far greater than the text: nothing is made ahead of what is read.
	for range numbers[2] {
		legs = append(legs, r.leg())
	}
	r.skip(lastLine(r.sum))
	if r.rest != "" {
		panic(noSheet{})
	}
	return fuel, legs, true
}

func (r *reader) leg() api.LoadLeg {
	r.skip("leg ")
	how := r.word(" ")
	leg := api.LoadLeg{Pump: how == howOf(true)}
	if how != howOf(leg.Pump) {
		panic(noSheet{})
	}
	numbers := r.numbers(6)
	leg.Fuel, leg.Burn, leg.Leak = numbers[0], span(numbers[1], numbers[2]), span(numbers[3], numbers[4])
	for range numbers[5] {
		leg.Items = append(leg.Items, r.item())
	}
	return leg
}

func (r *reader) item() api.LoadItem {
	r.skip("item ")
	numbers := r.numbers(3)
	return api.LoadItem{Station: numbers[0], Weight: span(numbers[1], numbers[2])}
}

// skip reads a text that must be there.
func (r *reader) skip(text string) {
	rest, found := strings.CutPrefix(r.rest, text)
	if !found {
		panic(noSheet{})
	}
	r.rest = rest
}

// word reads a word, and what ends it.
func (r *reader) word(end string) string {
	word, rest, found := strings.Cut(r.rest, end)
	if !found {
		panic(noSheet{})
	}
	r.rest = rest
	return word
}

// numbers reads so many numbers, and the end of their line.
func (r *reader) numbers(count int) []int {
	var numbers []int
	for i := range count {
		end := " "
		if i == count-1 {
			end = "\n"
		}
		x := numberOf(r.word(end))
		r.sum += x
		numbers = append(numbers, x)
	}
	return numbers
}

// numberOf returns the number of a word. There is just one way to write a number.
func numberOf(word string) int {
	x, err := strconv.Atoi(word)
	if err != nil || x < 0 || strconv.Itoa(x) != word || len(word) > digitsMost {
		panic(noSheet{})
	}
	return x
}
