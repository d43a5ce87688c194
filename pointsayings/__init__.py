"""What's said of points in the plane; pointsayings.plane answers the calls."""
