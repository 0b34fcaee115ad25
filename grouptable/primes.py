"""Primes among the numbers that are one more than a multiple."""


def is_prime(number):
    if number < 2:
        return False
    divisor = 2
    while divisor * divisor <= number:
        if number % divisor == 0:
            return False
        divisor += 1
    return True


def least_prime(bound, step):
    """The least prime that's greater than bound and one more than a multiple of step."""
    candidate = 1
    while candidate <= bound or not is_prime(candidate):
        candidate += step
    return candidate
