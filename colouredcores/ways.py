"""Ways from one colour to another, straight or over others, and what they waste."""


def least_ways(between):
    least = [list(row) for row in between]
    count = len(between)
    for over in range(count):
        # A way over several others is put together of what was found in earlier rounds.
        for a in range(count):
            for b in range(count):
                least[a][b] = min(least[a][b], least[a][over] + least[over][b])
    return least


def cheaper_over_others(between):
    least = least_ways(between)
    pairs = []
    for a in range(len(between)):
        for b in range(len(between)):
            if least[a][b] < between[a][b]:
                pairs.append((a, b))
    return pairs
