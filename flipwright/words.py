"""How a row is parted into words, numbers and signs."""


def kind_of(sign):
    if "a" <= sign <= "z" or "A" <= sign <= "Z":
        return "letter"
    if "0" <= sign <= "9":
        return "figure"
    if sign == " ":
        return "blank"
    return "single"


def end_of(row, begin):
    kind = kind_of(row[begin])
    end = begin + 1
    while kind != "single" and end < len(row) and kind_of(row[end]) == kind:
        end += 1
    return end


def words_of(row):
    words = []
    begin = 0
    while begin < len(row):
        end = end_of(row, begin)
        if row[begin] != " ":
            words.append(row[begin:end])
        begin = end
    return words
