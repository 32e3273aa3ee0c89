"""Fareweb: rides through zones that never cost more than the least tickets."""
