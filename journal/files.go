package journal

import (
	"slices"
	"strconv"
	"strings"

	"leasekeeper/api"
)

// The journal goes on in another file whenever it is replaced: a Write over the one that counts, torn, would lose what was durable. This is the first, of the number 0; behind it the number stands in the name.
const firstFile = "journal"

func fileOf(number uint64) string {
	if number == 0 {
		return firstFile
	}
	return firstFile + strconv.FormatUint(number, 10)
}

// numberOf takes the name of a file apart; false: fileOf names none like this, so that it is another's.
func numberOf(file string) (uint64, bool) {
	number, _ := strconv.ParseUint(strings.TrimPrefix(file, firstFile), 10, 64)
	return number, fileOf(number) == file
}

// numbersOn are the numbers of the journal's files that a disk has, the least first. (The order of their names would put 10 ahead of 9.)
func numbersOn(disk api.Disk) ([]uint64, error) {
	files, err := disk.Names()
	if err != nil {
		return nil, err
	}
	var numbers []uint64
	for _, file := range files {
		if number, ok := numberOf(file); ok {
			numbers = append(numbers, number)
		}
	}
	slices.Sort(numbers)
	return numbers, nil
}
