package water

import (
	"strconv"
	"strings"

	"windsock/api"
)

// digitsMost is how many digits a number of a file has at most.
const digitsMost = 10

// names are the names of the gauges, in the order of a file.
var names = [...]string{"tide", "east", "north", "wave", "swell"}

// byName returns the gauges of weather by their names.
func byName(w *api.Weather) map[string]*api.Gauge {
	return map[string]*api.Gauge{"tide": &w.Tide, "east": &w.East, "north": &w.North, "wave": &w.Wave, "swell": &w.Swell}
}

// fileOf returns the file of weather that is as defined.
func fileOf(w api.Weather) string {
	var file strings.Builder
	gauges := byName(&w)
	count := 0
	for _, name := range names {
		g := gauges[name]
		file.WriteString(lineOf(name, g.Rate, g.Least, g.Most))
		for _, r := range g.Readings {
			file.WriteString(lineOf("read", r.Minute, r.Value.Low, r.Value.High, r.Source))
		}
		count += len(g.Readings)
	}
	file.WriteString(lineOf("end", count))
	return file.String()
}

// lineOf returns the line of a word and some numbers.
func lineOf(word string, numbers ...int) string {
	for _, x := range numbers {
		word += " " + strconv.Itoa(x)
	}
	return word + checkOf(word) + "\n"
}

// checkOf returns the check of the words of a line. Where these have bytes beyond ASCII, it is
// another one than that of the bytes; but then they are not the words of a line anyway.
func checkOf(words string) string {
	sum := 0
	for _, c := range words {
		sum += int(c)
	}
	return " =" + strconv.Itoa(sum/10%10) + strconv.Itoa(sum%10)
}

// noFile is why reading is given up: the text is no weather file.
type noFile struct{}

// reader is what is left of a text that is read.
type reader struct {
	rest string
}

// weatherOf returns the weather of a text, and whether this is a weather file.
func weatherOf(text string) (w api.Weather, is bool) {
	defer func() {
		if _, gaveUp := recover().(noFile); gaveUp {
			w, is = api.Weather{}, false
		}
	}()
	r := &reader{rest: text}
	gauges := byName(&w)
	count := 0
	for _, name := range names {
		g := gauges[name]
		numbers := r.line(name, 3)
		g.Rate, g.Least, g.Most = numbers[0], numbers[1], numbers[2]
		g.Readings = r.readings()
		count += len(g.Readings)
	}
	if end := r.line("end", 1); end[0] != count || r.rest != "" {
		panic(noFile{})
	}
	return w, true
}

// readings reads all lines of readings that follow.
func (r *reader) readings() []api.Reading {
	var readings []api.Reading
	for strings.HasPrefix(r.rest, "read ") {
		numbers := r.line("read", 4)
		readings = append(readings, api.Reading{Minute: numbers[0], Value: span(numbers[1], numbers[2]), Source: numbers[3]})
	}
	return readings
}

// line reads a line that begins with a word, and returns the numbers behind it.
func (r *reader) line(word string, count int) []int {
	line, rest, ended := strings.Cut(r.rest, "\n")
	at := strings.LastIndex(line, " ")
	if !ended || at < 0 || line[at:] != checkOf(line[:at]) {
		panic(noFile{})
	}
	words := strings.Split(line[:at], " ")
	if words[0] != word || len(words) != count+1 {
		panic(noFile{})
	}
	r.rest = rest
	var numbers []int
	for _, w := range words[1:] {
		numbers = append(numbers, numberOf(w))
	}
	return numbers
}

// numberOf returns the number of a word. There is just one way to write a number.
func numberOf(word string) int {
	x, err := strconv.Atoi(word)
	if err != nil || strconv.Itoa(x) != word || len(strings.TrimPrefix(word, "-")) > digitsMost {
		panic(noFile{})
	}
	return x
}
