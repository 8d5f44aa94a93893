"""Projections and points for tests."""

import random

D = 10 ** 7
LAT = 90 * D
LON = 180 * D

CYLINDRICAL = [
    ("plate", 0, 0, 0, 0), ("plate", 0, 123456789, 300000000, 0), ("plate", 0, -LON, 80 * D, 0),
    ("mercator", 0, 0, 0, 0), ("mercator", 0, -755000001, 0, 0), ("mercator", 0, LON - 1, 0, 0),
    ("lambert", 0, 0, 0, 0), ("lambert", 0, 100 * D, 450000000, 0), ("lambert", 0, -LON, 80 * D, 0),
    ("sinus", 0, 0, 0, 0), ("sinus", 0, -LON, 0, 0), ("sinus", 0, 111111111, 0, 0),
]
CENTERS = [(0, 0), (LAT, 0), (-LAT, 50 * D), (400000000, -100000000), (-333333333, LON - 1), (1, -LON), (LAT - 1, 7)]
AZIMUTHAL = [(name, lat, lon, 0, 0) for name in ("gnomonic", "stereo", "ortho", "disk") for lat, lon in CENTERS]
CONIC = [
    (name, lat0, lon0, lat1, lat2) for name in ("albers", "cone") for lat0, lon0, lat1, lat2 in (
        (0, 0, 20 * D, 50 * D), (30 * D, -100 * D, -10 * D, 70 * D), (-85 * D, LON - 1, -80 * D, -20 * D),
        (5, -LON, -40 * D, 39 * D), (85 * D, 33, 0, D), (0, 0, 80 * D - 1, 80 * D), (10 * D, 0, -79 * D, 80 * D))
]
ALL = CYLINDRICAL + AZIMUTHAL + CONIC
POINTS = [
    (0, 0), (1, 1), (-1, -1), (0, LON - 1), (0, -LON), (0, LAT), (0, -LAT), (450000000, LAT), (-450000000, -LAT),
    (LAT, 0), (LAT, -LON), (-LAT, 55), (-LAT, LON - 1), (LAT - 1, 5), (-LAT + 1, -5), (480000000, 110000000),
    (-337700000, 1511100000), (407127753, -740059728), (10 * D, 100 * D), (-85 * D, 80 * D), (400000000, -100000000),
    (400000000, 80 * D + LAT), (-400000000, 170 * D), (-300000000, 123456789), (30 * D, 100 * D), (-75 * D, -LON),
]


def random_points(seed, many):
    chance = random.Random(seed)
    return [(chance.randint(-LAT, LAT), chance.randint(-LON, LON - 1)) for _ in range(many)]
