"""Rows of numbers: how many are astray, so that the others are in order."""


# lasts[k]: of all choices of k + 1 numbers in order so far, the least number that one ends with. The lesser
# it is, the more may still stay behind it; and lasts is in order itself.
def count_staying(row):
    lasts = []
    for number in row:
        k = 0
        while k < len(lasts) and lasts[k] <= number:
            k += 1
        if k == len(lasts):
            lasts.append(number)
        else:
            lasts[k] = number
    return len(lasts)


def count_astray(row):
    return len(row) - count_staying(row)
