"""What can be made conceded in a disputation by rules; see madeconceded.disputations."""
